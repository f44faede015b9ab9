"""Point [5]: standings, loose ones, moves, leading; and what point [1] says of these."""

import copy
import unittest

from sparebay.errors import BadMove, NoBay, NoMoves, NoStanding, NoWeb
from sparebay.standings import done, is_loose, is_standing, led
from tests import reference, walks
from tests.samples import CHAIN, FULL, GREAT, GRID, PATH, RING, ROUND, SMALL, STAR
from tests.values import ANYTHING, LOOSE_ONLY, NO_LOOSE, NO_MOVES, NO_NUMBERS, NO_WEBS, TAILED, deep, deep_list


class IsStandingTest(unittest.TestCase):

    def check(self, web, thing, standing, loose):
        self.assertIs(is_standing(web, thing), standing, thing)
        self.assertIs(is_loose(web, thing), loose, thing)

    def test_standings(self):
        for thing in [(0, 7, 8, 9), (7, 0, 8, 9), (9, 8, 7, 0), (1, 2, 0, 3), (999, 0, 1, 998), (0, 1, 999, 2)]:
            self.check(TAILED, thing, True, True)
            self.check(RING, thing, True, True)
        self.check((2, ((0, 1),)), (0, 1), True, True)
        self.check((2, ((0, 1),)), (999, 0), True, True)

    def test_loose_ones(self):
        for thing in LOOSE_ONLY:
            self.check(TAILED, thing, False, True)

    def test_what_is_none(self):
        for thing in NO_LOOSE:
            self.check(TAILED, thing, False, False)
            self.check((2, ((0, 1),)), thing, thing == (0, 7), thing == (0, 7))

    def test_every_length_up_to_forty(self):
        for n in range(2, 41):
            web = (n, tuple((k, k + 1) for k in range(n - 1)))
            for empty in {0, 1, n // 2, n - 1}:
                pieces = list(range(999, 999 - n, -1))
                pieces[empty] = 0
                self.check(web, tuple(pieces), True, True)
                self.check(web, pieces, False, False)
                self.check(web, tuple(pieces[1:]), False, False)
                self.check(web, tuple(pieces) + (5,), False, False)
                if n > 2:
                    pieces[empty - 1] = pieces[(empty + 1) % n]
                    self.check(web, tuple(pieces), False, True)

    def test_a_wrong_member_anywhere_in_forty(self):
        for k in range(40):
            for thing in [1000, -1, True, False, None, "7", (), [], (7,), 10 ** 60, deep(10)]:
                pieces = list(range(100, 140))
                pieces[(k + 7) % 40] = 0
                pieces[k] = thing
                self.check(GRID, tuple(pieces), False, False)
            pieces[k] = 0
            self.check(GRID, tuple(pieces), False, False)
            pieces[k] = pieces[(k + 1) % 40]
            self.check(GRID, tuple(pieces), False, True)

    def test_anything_at_all(self):
        for thing in [1.0, 0.0, {1, 2}, frozenset(), range(4), object(), int, iter(()), deep(5000), deep_list(5000)]:
            self.check(TAILED, thing, False, False)
            self.check(TAILED, (0, 7, 8, thing), False, False)
            self.check(TAILED, (thing, 7, 8, 9), False, False)

    def test_by_name(self):
        self.assertIs(is_standing(thing=(0, 7, 8, 9), web=TAILED), True)
        self.assertIs(is_loose(thing=(0, 7, 7, 9), web=TAILED), True)
        self.assertIs(is_standing(web=TAILED, thing=(0, 7, 7, 9)), False)

    def test_no_web(self):
        for web in NO_WEBS:
            for thing in [(0, 1), (0, 7, 8, 9), None, web]:
                self.assertRaises(NoWeb, is_standing, web, thing)
                self.assertRaises(NoWeb, is_loose, web, thing)


class DoneTest(unittest.TestCase):

    def test_no_move(self):
        for thing in [(0, 7, 8, 9), (7, 8, 9, 0), (9, 9, 0, 9)]:
            self.assertEqual(done(TAILED, thing, []), thing)

    def test_moves(self):
        self.assertEqual(done(TAILED, (0, 7, 8, 9), [1]), (7, 0, 8, 9))
        self.assertEqual(done(TAILED, (0, 7, 8, 9), [2]), (8, 7, 0, 9))
        self.assertEqual(done(TAILED, (0, 7, 8, 9), [1, 2]), (7, 8, 0, 9))
        self.assertEqual(done(TAILED, (0, 7, 8, 9), [1, 2, 0]), (0, 8, 7, 9))
        self.assertEqual(done(TAILED, (0, 7, 8, 9), [2, 3, 2]), (8, 7, 0, 9))
        self.assertEqual(done(TAILED, (7, 8, 9, 0), [2, 0, 2, 3]), (7, 8, 9, 0))
        self.assertEqual(done((2, ((0, 1),)), (0, 5), [1]), (5, 0))
        self.assertEqual(done((2, ((0, 1),)), (0, 5), [1, 0]), (0, 5))

    def test_alike_pieces(self):
        self.assertEqual(done(TAILED, (0, 7, 7, 9), [1, 2]), (7, 7, 0, 9))
        self.assertEqual(done(TAILED, (4, 4, 0, 4), [3]), (4, 4, 4, 0))
        self.assertEqual(done(RING, (1, 0, 1, 2), [0, 3, 2, 1]), (2, 0, 1, 1))

    def test_many_moves(self):
        self.assertEqual(done(TAILED, (0, 7, 8, 9), [1, 2, 0] * 6666), (0, 7, 8, 9))
        self.assertEqual(done(TAILED, (0, 7, 8, 9), [1, 2, 0] * 6665), (0, 8, 7, 9))
        self.assertEqual(done(RING, (0, 1, 2, 3), [1, 2, 3, 0] * 100001), (0, 3, 1, 2))
        there = list(range(1, 40)) + list(range(38, -1, -1))
        start = tuple(range(40))
        self.assertEqual(done(PATH, start, there * 250), start)
        self.assertEqual(done(PATH, start, there[:39]), start[1:] + (0,))

    def test_against_the_words_and_back(self):
        for web in SMALL + GREAT:
            for seed, many in enumerate((1, 2, 5, 60)):
                start = tuple(range(500, 500 + web[0] - 1)) + (0,)
                moves = walks.strolled(web, start, many, seed)
                wanted = start
                for bay in moves:
                    wanted = walks.moved(wanted, bay)
                self.assertEqual(done(web, start, moves), wanted)
                self.assertEqual(done(web, wanted, moves[-2::-1] + [web[0] - 1]), start)

    def test_bad_moves(self):
        for moves in [[0], [3], [1, 1], [1, 3], [1, 0, 0], [2, 3, 3], [2, 3, 0], [2, 3, 1], [1, 2, 0, 3], [0, 1]]:
            self.assertRaises(BadMove, done, TAILED, (0, 7, 8, 9), moves)
        self.assertRaises(BadMove, done, TAILED, (7, 8, 9, 0), [1])
        self.assertRaises(BadMove, done, TAILED, (7, 8, 9, 0), [3])
        self.assertRaises(BadMove, done, TAILED, (5, 5, 5, 0), [0])
        self.assertRaises(BadMove, done, PATH, tuple(range(40)), list(range(1, 40)) + [37])
        self.assertRaises(BadMove, done, STAR, tuple(range(40)), [7, 33])

    def test_each_bay_that_is_not_tied(self):
        for web in SMALL + [GRID, CHAIN]:
            for empty in range(web[0]):
                loose = tuple(0 if bay == empty else 5 for bay in range(web[0]))
                for bay in range(web[0]):
                    if bay in reference.near(web, empty):
                        self.assertEqual(done(web, loose, [bay]).index(0), bay)
                    else:
                        self.assertRaises(BadMove, done, web, loose, [bay])

    def test_no_moves(self):
        for moves in NO_MOVES:
            self.assertRaises(NoMoves, done, TAILED, (0, 7, 8, 9), moves)
            self.assertRaises(NoMoves, done, TAILED, (0, 7, 7, 9), moves)

    def test_all_of_the_moves_is_looked_at_first(self):
        for bad in ([3], [0], [1, 1], [1, 3, 1]):
            for thing in NO_NUMBERS + [4, 5, 40]:
                self.assertRaises(NoMoves, done, TAILED, (0, 7, 8, 9), bad + [thing])
        self.assertRaises(NoMoves, done, FULL, tuple(range(40)), [0] * 10000 + [40])

    def test_the_earliest_error_first(self):
        for web in NO_WEBS:
            for loose in [(0, 1), (0, 7, 8, 9), None]:
                for moves in ([1], [9], None):
                    self.assertRaises(NoWeb, done, web, loose, moves)
        for loose in NO_LOOSE:
            for moves in ([], [1], [0], [3, 4], (1,), None):
                self.assertRaises(NoStanding, done, TAILED, loose, moves)

    def test_by_name(self):
        self.assertEqual(done(moves=[1, 2], loose=(0, 7, 8, 9), web=TAILED), (7, 8, 0, 9))

    def test_arguments_stay(self):
        moves = [1, 2, 0, 2, 3]
        loose = (0, 7, 7, 9)
        done(TAILED, loose, moves)
        self.assertRaises(BadMove, done, TAILED, loose, moves + moves)
        self.assertEqual((loose, moves), ((0, 7, 7, 9), [1, 2, 0, 2, 3]))
        things = NO_MOVES + NO_LOOSE + ANYTHING
        kept = repr(copy.deepcopy(things))
        for thing in things:
            is_standing(TAILED, thing)
            is_loose(TAILED, thing)
            self.assertRaises((NoMoves, BadMove), done, TAILED, (0, 7, 8, 9), [3, thing])
            self.assertRaises(NoStanding, done, TAILED, [thing], [])
        self.assertEqual(repr(things), kept)


class LedTest(unittest.TestCase):

    def test_to_where_it_is(self):
        for loose in [(0, 7, 8, 9), (7, 8, 0, 9), (7, 7, 7, 0)]:
            self.assertEqual(led(TAILED, loose, loose.index(0)), loose)

    def test_one_way(self):
        self.assertEqual(led(TAILED, (0, 7, 8, 9), 3), (8, 7, 9, 0))
        self.assertEqual(led(TAILED, (8, 7, 9, 0), 0), (0, 7, 8, 9))
        self.assertEqual(led(TAILED, (0, 7, 7, 9), 1), (7, 0, 7, 9))
        self.assertEqual(led((2, ((0, 1),)), (5, 0), 0), (0, 5))

    def test_the_first_of_several_ways(self):
        self.assertEqual(led(RING, (0, 1, 2, 3), 2), (1, 2, 0, 3))
        self.assertEqual(led(RING, (1, 2, 0, 3), 0), (0, 1, 2, 3))
        self.assertEqual(led(RING, (1, 0, 2, 3), 3), (3, 1, 2, 0))
        # The first way there goes by bay 2, and the first way back by bay 1.
        web = reference.web_of(6, [(0, 2), (2, 4), (4, 5), (0, 3), (3, 1), (1, 5)])
        self.assertEqual(led(web, (0, 1, 2, 3, 4, 5), 5), (2, 1, 4, 3, 5, 0))
        self.assertEqual(led(web, (2, 1, 4, 3, 5, 0), 0), (0, 3, 4, 2, 5, 1))

    def test_forty_bays(self):
        start = tuple(range(40))
        self.assertEqual(led(PATH, start, 39), start[1:] + (0,))
        self.assertEqual(led(ROUND, start, 20), start[1:21] + (0,) + start[21:])
        self.assertEqual(led(FULL, start, 39), (39,) + start[1:39] + (0,))
        self.assertEqual(led(STAR, led(STAR, start, 7), 33), (33,) + start[1:33] + (0,) + start[34:])

    def test_against_the_words(self):
        for web in SMALL:
            for a in range(web[0]):
                start = tuple(range(100, 100 + a)) + (0,) + tuple(range(200, 199 + web[0] - a))
                for b in range(web[0]):
                    self.assertEqual(led(web, start, b), walks.led(web, start, b))
                    self.assertEqual(led(web, start, b), done(web, start, reference.first_path(web, a, b)))

    def test_no_bay(self):
        for thing in NO_NUMBERS + [4, 5, 40]:
            self.assertRaises(NoBay, led, TAILED, (0, 7, 8, 9), thing)
            self.assertRaises(NoBay, led, TAILED, (7, 7, 7, 0), thing)

    def test_the_earliest_error_first(self):
        for web in NO_WEBS:
            for loose in [(0, 1), None]:
                for bay in (0, 1, 99, None):
                    self.assertRaises(NoWeb, led, web, loose, bay)
        for loose in NO_LOOSE:
            for bay in (0, 3, 4, True, None):
                self.assertRaises(NoStanding, led, TAILED, loose, bay)

    def test_by_name(self):
        self.assertEqual(led(bay=3, loose=(0, 7, 8, 9), web=TAILED), (8, 7, 9, 0))
