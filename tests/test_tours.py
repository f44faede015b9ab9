"""Point [9]: tours; and what point [1] says of them."""

import unittest
from random import Random

from sparebay.errors import NoBay, NoCount, NoStanding, NoTour, NoWeb
from sparebay.standings import done
from sparebay.tours import done_many, order_of, turned
from sparebay.webs import first_path
from tests import reference, walks
from tests.samples import (ALL, CHAIN, EVEN, FULL, GREAT, GRID, MIXED, OF_SEVEN_BAYS, PATH, RING, ROUND, SEVENS,
                           SMALL, STAR)
from tests.values import ANYTHING, NO_LOOSE, NO_MOVES, NO_NUMBERS, NO_WEBS, TAILED

MOST = 10 ** 30
NO_COUNTS = [thing for thing in ANYTHING if thing not in (0, 1, 2, 10 ** 59) or thing is False or thing is True] + [
    -1, MOST + 1, 10 ** 60, -MOST, True, False, None, "1", "", b"1", [1], (1,), {1: 1},
]
# What is no tour from bay 0 of TAILED: bad members, another kind; see NO_MOVES.
NO_TOURS = NO_MOVES + [
    # does not come back
    [1], [2], [1, 2], [1, 0, 2], [2, 3], [1, 2, 0, 1],
    # begins at another bay, or a bay is not tied to the one ahead
    [0], [3], [3, 2], [3, 0], [2, 3, 0], [1, 3, 0], [1, 1, 0], [1, 2, 2, 0], [1, 2, 0, 0], [0, 1, 0], [1, 2, 3, 2, 0, 3, 0],
]


def tour_from(web, bay, random, many):
    """A stroll, a tour between, the stroll's way back, and so on."""
    start = tuple(0 if at == bay else 1 for at in range(web[0]))
    found = []
    for _ in range(many):
        there = walks.strolled(web, start, random.randrange(1, 9), random.randrange(999))
        end = there[-1]
        between = walks.strolled(web, tuple(0 if at == end else 1 for at in range(web[0])),
                                 random.randrange(1, 60), random.randrange(999))
        between += first_path(web, between[-1], end)
        found += there + between + there[-2::-1] + [bay]
    return found


def turn_by_moves(web, bay, tour):
    start = tuple(0 if at == bay else at + 1 for at in range(web[0]))
    after = done(web, start, tour)
    return tuple(after.index(start[at]) for at in range(web[0]))


def many_times(turn, times):
    """Where each piece is after so many turns, each done by itself."""
    at = tuple(range(len(turn)))
    for _ in range(times):
        at = tuple(turn[bay] for bay in at)
    return at


class TurnedTest(unittest.TestCase):

    def test_the_empty_tour(self):
        for web in SMALL + GREAT:
            for bay in {0, 1, web[0] - 1}:
                self.assertEqual(turned(web, bay, []), tuple(range(web[0])))

    def test_where_pieces_come_to(self):
        self.assertEqual(turned(TAILED, 0, [1, 2, 0]), (0, 2, 1, 3))
        self.assertEqual(turned(TAILED, 2, [3, 2]), (0, 1, 2, 3))
        self.assertEqual(turned(RING, 0, [1, 2, 3, 0]), (0, 3, 1, 2))
        self.assertEqual(turned(RING, 0, [3, 2, 1, 0]), (0, 2, 3, 1))
        self.assertEqual(turned(RING, 2, [3, 0, 1, 2]), (3, 0, 2, 1))
        self.assertEqual(turned(ROUND, 0, list(range(1, 40)) + [0]), (0, 39) + tuple(range(1, 39)))

    def test_against_moves(self):
        random = Random(31)
        for web in SMALL + SEVENS + OF_SEVEN_BAYS + GREAT + [MIXED]:
            for bay in {0, web[0] // 2, web[0] - 1}:
                tour = tour_from(web, bay, random, random.randrange(1, 4))
                told = turned(web, bay, tour)
                self.assertEqual(told, turn_by_moves(web, bay, tour))
                self.assertEqual(told[bay], bay)
                back = tour[-2::-1] + [bay]
                self.assertEqual(turned(web, bay, tour + back), tuple(range(web[0])))

    def test_one_move_and_its_way_back(self):
        for web in SMALL:
            for bay in range(web[0]):
                for near in reference.near(web, bay):
                    self.assertEqual(turned(web, bay, [near, bay]), tuple(range(web[0])))

    def test_no_tour(self):
        for tour in NO_TOURS:
            self.assertRaises(NoTour, turned, TAILED, 0, tour)
            self.assertRaises(NoTour, order_of, TAILED, 0, tour)
        for bay, tour in [(1, [1, 2, 0]), (3, [1, 2, 0]), (2, [0, 1]), (3, [2, 0, 2]), (1, [0, 2]), (3, [3])]:
            self.assertRaises(NoTour, turned, TAILED, bay, tour)
            self.assertRaises(NoTour, order_of, TAILED, bay, tour)

    def test_the_earliest_error_first(self):
        for function in (turned, order_of):
            for web in NO_WEBS:
                self.assertRaises(NoWeb, function, web, 0, [])
                self.assertRaises(NoWeb, function, web, None, None)
            for bay in NO_NUMBERS + [4, 40]:
                self.assertRaises(NoBay, function, TAILED, bay, [])
                self.assertRaises(NoBay, function, TAILED, bay, None)

    def test_by_name_and_arguments_stay(self):
        tour = [1, 2, 0]
        self.assertEqual(turned(tour=tour, bay=0, web=TAILED), (0, 2, 1, 3))
        self.assertEqual(order_of(tour=tour, bay=0, web=TAILED), 2)
        self.assertEqual(done_many(times=3, tour=tour, loose=(0, 7, 8, 9), web=TAILED), (0, 8, 7, 9))
        self.assertEqual(tour, [1, 2, 0])


class OrderOfTest(unittest.TestCase):

    def test_orders(self):
        self.assertEqual(order_of(TAILED, 0, []), 1)
        self.assertEqual(order_of(TAILED, 0, [2, 3, 2, 0]), 1)
        self.assertEqual(order_of(RING, 0, [1, 2, 3, 0]), 3)
        self.assertEqual(order_of(RING, 3, [2, 1, 0, 3] * 2), 3)
        self.assertEqual(order_of(RING, 3, [2, 1, 0, 3] * 3), 1)
        self.assertEqual(order_of(ROUND, 0, list(range(1, 40)) + [0]), 39)
        self.assertEqual(order_of(ROUND, 0, (list(range(1, 40)) + [0]) * 26), 3)

    def test_two_rings_at_once(self):
        web = reference.web_of(11, [(k, (k + 1) % 6) for k in range(6)]
                               + [(0, 6), (6, 7), (7, 8), (8, 9), (9, 10), (10, 0)])
        first, second = [1, 2, 3, 4, 5, 0], [6, 7, 8, 9, 10, 0]
        self.assertEqual(order_of(web, 0, first + second), 5)
        web = reference.web_of(8, [(0, 1), (1, 2), (2, 3), (3, 0), (0, 4), (4, 5), (5, 6), (6, 7), (7, 0)])
        self.assertEqual(order_of(web, 0, [1, 2, 3, 0, 4, 5, 6, 7, 0]), 12)

    def test_the_least_number_of_times(self):
        random = Random(32)
        for web in SMALL + SEVENS + OF_SEVEN_BAYS + [MIXED, CHAIN]:
            bay = random.randrange(web[0])
            tour = tour_from(web, bay, random, 2)
            turn = turned(web, bay, tour)
            times, at = 1, turn
            while at != tuple(range(web[0])) and times < 5000:
                times, at = times + 1, tuple(turn[bay] for bay in at)
            if times < 5000:
                self.assertEqual(order_of(web, bay, tour), times)

    def test_great_orders(self):
        random = Random(33)
        greatest = 0
        for web in (FULL, GRID):
            for _ in range(30):
                tour = tour_from(web, 7, random, 3)
                times = order_of(web, 7, tour)
                greatest = max(greatest, times)
                start = tuple(range(1, 8)) + (0,) + tuple(range(8, 40))
                self.assertEqual(done_many(web, start, tour, times), start)
                self.assertEqual(done_many(web, start, tour, times + 1), done(web, start, tour))
                for prime in (2, 3, 5, 7, 11, 13, 17, 19, 23, 29, 31, 37):
                    if times % prime == 0:
                        self.assertNotEqual(done_many(web, start, tour, times // prime), start)
        self.assertGreater(greatest, 500)


class DoneManyTest(unittest.TestCase):

    def test_small_times_against_done(self):
        random = Random(34)
        for web in SMALL + SEVENS[:1] + [CHAIN, GRID, MIXED, FULL]:
            bay = random.randrange(web[0])
            tour = tour_from(web, bay, random, 2)
            for pieces in ((5,), (1, 2), range(1, 1000)):
                loose = tuple(0 if at == bay else random.choice(pieces) for at in range(web[0]))
                wanted = loose
                for times in range(8):
                    self.assertEqual(done_many(web, loose, tour, times), wanted)
                    wanted = done(web, wanted, tour)

    def test_no_times_and_the_empty_tour(self):
        for web in SMALL + GREAT:
            loose = (8,) * (web[0] - 1) + (0,)
            for times in (0, 1, 7, MOST):
                self.assertEqual(done_many(web, loose, [], times), loose)
        self.assertEqual(done_many(TAILED, (0, 7, 8, 9), [1, 2, 0], 0), (0, 7, 8, 9))

    def test_great_times(self):
        self.assertEqual(done_many(TAILED, (0, 7, 8, 9), [1, 2, 0], MOST - 1), (0, 8, 7, 9))
        self.assertEqual(done_many(TAILED, (0, 7, 8, 9), [1, 2, 0], MOST), (0, 7, 8, 9))
        random = Random(35)
        for web in SMALL + SEVENS + [MIXED, CHAIN, RING, EVEN, ALL]:
            bay = random.randrange(web[0])
            tour = tour_from(web, bay, random, 2)
            turn = turned(web, bay, tour)
            loose = tuple(0 if at == bay else random.randrange(1, 9) for at in range(web[0]))
            order = order_of(web, bay, tour)
            for times in (MOST, MOST - 1, 10 ** 29 + 3, 2 ** 64 + 1, 10 ** 6):
                if order < 3000:
                    at = many_times(turn, times % order)
                    after = tuple(loose[at.index(end)] for end in range(web[0]))
                    self.assertEqual(done_many(web, loose, tour, times), after)
        once_round = list(range(1, 40)) + [0]
        start = tuple(range(40))
        rest = MOST % 39
        self.assertEqual(done_many(ROUND, start, once_round, MOST), (0,) + start[1 + rest:] + start[1:1 + rest])

    def test_moves_on_trees_turn_nothing(self):
        random = Random(36)
        for web in (PATH, STAR):
            start = tuple(range(40))
            self.assertEqual(done_many(web, start, tour_from(web, 0, random, 3), 10 ** 20 + 1), start)

    def test_no_count(self):
        for times in NO_COUNTS:
            self.assertRaises(NoCount, done_many, TAILED, (0, 7, 8, 9), [1, 2, 0], times)
            self.assertRaises(NoCount, done_many, TAILED, (0, 7, 7, 9), [], times)

    def test_the_earliest_error_first(self):
        for web in NO_WEBS:
            self.assertRaises(NoWeb, done_many, web, (0, 1), [], 1)
            self.assertRaises(NoWeb, done_many, web, None, None, None)
        for loose in NO_LOOSE:
            for tour, times in [([], 1), ([1, 2, 0], -1), ([1], 1), (None, None)]:
                self.assertRaises(NoStanding, done_many, TAILED, loose, tour, times)
        for tour in NO_TOURS:
            for times in (0, 1, MOST, -1, MOST + 1, None, True, "1"):
                self.assertRaises(NoTour, done_many, TAILED, (0, 7, 7, 9), tour, times)
        for tour in ([1, 2, 0], [0], [3, 2, 0, 3], [2]):
            for times in (0, 1, None):
                self.assertRaises(NoTour, done_many, TAILED, (7, 8, 9, 0), tour, times)

    def test_arguments_stay(self):
        tour = [1, 2, 0, 2, 3, 2, 0]
        done_many(TAILED, (0, 7, 7, 9), tour, 10 ** 9)
        self.assertRaises(NoCount, done_many, TAILED, (0, 7, 7, 9), tour, -1)
        self.assertEqual(tour, [1, 2, 0, 2, 3, 2, 0])
