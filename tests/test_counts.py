"""Points [10] and [12]: counts and mends; what points [1] and [14] say of these."""

import unittest
from collections import Counter
from itertools import permutations
from math import factorial
from random import Random

from sparebay.counts import classes, how_many, mends
from sparebay.errors import NoStanding, NoWeb
from sparebay.standings import done, led
from tests import reference, walks
from tests.samples import (ALL, BLOCKS, BRIDGE, CHAIN, EVEN, FULL, GREAT, GREAT_BLOCKS, GRID, GRID_AND_TIE, MIXED,
                           OF_SEVEN_BAYS, PATH, RING, ROUND, SEVEN, SEVENS, SMALL, STAR, put_together)
from tests.values import NO_LOOSE, NO_WEBS, TAILED


def any_loose(web, random, kinds):
    return tuple(random.sample([0] + random.choices(kinds, k=web[0] - 1), web[0]))


def open_ties(web):
    return [(a, b) for a in range(web[0]) for b in range(a + 1, web[0]) if (a, b) not in web[1]]


def with_tie(web, tie):
    return reference.web_of(web[0], list(web[1]) + [tie])


class HowManyTest(unittest.TestCase):

    def test_each_kind(self):
        self.assertEqual(how_many(BRIDGE, (0, 5)), 2)
        self.assertEqual(how_many(RING, (0, 5, 5, 6)), 12)
        self.assertEqual(how_many(RING, (0, 5, 5, 5)), 4)
        self.assertEqual(how_many(RING, (5, 7, 0, 6)), 12)
        self.assertEqual(how_many(ALL, (0, 1, 2, 3)), 24)
        self.assertEqual(how_many(ALL, (0, 2, 2, 3)), 12)
        self.assertEqual(how_many(EVEN, (0, 1, 2, 3, 4)), 60)
        self.assertEqual(how_many(EVEN, (0, 1, 2, 3, 3)), 60)
        self.assertEqual(how_many(EVEN, (0, 1, 1, 3, 3)), 30)
        self.assertEqual(how_many(SEVEN, (0, 1, 2, 3, 4, 5, 6)), 840)
        self.assertEqual(how_many(TAILED, (0, 7, 8, 9)), 8)
        self.assertEqual(how_many(TAILED, (0, 7, 7, 9)), 4)
        self.assertEqual(how_many(TAILED, (0, 7, 8, 7)), 8)

    def test_rings_whose_pieces_come_round_again(self):
        web = reference.web_of(7, [(k, (k + 1) % 7) for k in range(7)])
        for pieces, many in [((1, 2, 1, 2, 1, 2), 2), ((1, 2, 3, 1, 2, 3), 3), ((1, 1, 2, 1, 1, 2), 3),
                             ((1, 2, 2, 1, 2, 3), 6), ((4,) * 6, 1)]:
            self.assertEqual(how_many(web, (0,) + pieces), 7 * many)
            self.assertEqual(how_many(web, done(web, (0,) + pieces, [1, 2, 3])), 7 * many)

    def test_against_a_walk(self):
        random = Random(41)
        for web in SMALL + reference.some_webs(30, 4, 6):
            for kinds in (range(1, 1000), (1, 2, 3, 4, 5), (1, 2, 3), (7, 999), (5,)):
                loose = any_loose(web, random, kinds)
                self.assertEqual(how_many(web, loose), len(walks.walked(web, loose)), (web, loose))

    def test_webs_of_four_bays_against_a_walk(self):
        for web in reference.all_webs(4):
            for pieces in ((1, 2, 3), (1, 1, 2), (4, 4, 4)):
                for loose in set(permutations((0,) + pieces)):
                    self.assertEqual(how_many(web, loose), len(walks.walked(web, loose)))

    def test_webs_of_seven_bays_against_a_walk(self):
        random = Random(42)
        for web in SEVENS + OF_SEVEN_BAYS:
            for kinds in (range(1, 1000), (1, 2, 3, 4), (1, 2), (3,)):
                loose = any_loose(web, random, kinds)
                self.assertEqual(how_many(web, loose), len(walks.walked(web, loose)), (web, loose))

    def test_the_seven_with_alike_pieces(self):
        group = [order for order in walks.walked(SEVEN, tuple(range(7))) if order[0] == 0]
        self.assertEqual(len(group), 120)
        for pieces in [(1, 1, 2, 3, 4, 5), (1, 1, 2, 2, 3, 3), (1, 1, 1, 2, 2, 2), (1, 1, 1, 1, 1, 2), (1, 1, 1, 2, 2, 3)]:
            for order in list(permutations(pieces))[::97]:
                many = len({tuple(order[piece - 1] for piece in named[1:]) for named in group})
                self.assertEqual(how_many(SEVEN, (0,) + order), 7 * many)

    def test_great_webs(self):
        start = tuple(range(40))
        self.assertEqual(how_many(PATH, start), 40)
        self.assertEqual(how_many(STAR, (0,) + (5,) * 39), 40)
        self.assertEqual(how_many(ROUND, start), 40 * 39)
        self.assertEqual(how_many(ROUND, (0,) + (1, 2, 3) * 13), 40 * 3)
        self.assertEqual(how_many(FULL, start), factorial(40))
        self.assertEqual(how_many(GRID, start), factorial(40) // 2)
        self.assertEqual(how_many(GRID, (0, 1) + start[1:39]), factorial(40) // 2)
        self.assertEqual(how_many(GRID, (0, 1, 1) + start[1:38]), factorial(40) // 6)
        self.assertEqual(how_many(GRID, (0,) + (1,) * 20 + (2,) * 19), 40 * factorial(39) // factorial(20) // factorial(19))
        self.assertEqual(how_many(GRID_AND_TIE, start), factorial(40))
        self.assertEqual(how_many(GRID_AND_TIE, (0,) + (1,) * 39), 40)
        self.assertEqual(how_many(CHAIN, start), 40 * 3 ** 13)
        self.assertEqual(how_many(CHAIN, (0, 7, 7, 8) + start[4:]), 40 * 3 ** 13)
        self.assertEqual(how_many(CHAIN, (0, 7, 7, 7) + start[4:]), 40 * 3 ** 12)
        self.assertEqual(how_many(MIXED, tuple(range(23))), 23 * 2 * 120 * 12 * 6 * 3)

    def test_alike_pieces_count_where_the_empty_bay_led_to_bay_0_has_them(self):
        # The two alike pieces stand in one block only after the empty bay is led to bay 0.
        web = reference.web_of(7, [(0, 1), (1, 2), (2, 0), (2, 3), (3, 4), (4, 5), (5, 2), (3, 5), (0, 6)])
        random = Random(43)
        for _ in range(30):
            loose = any_loose(web, random, (1, 2, 3, 4, 5))
            self.assertEqual(how_many(web, loose), how_many(web, led(web, loose, 0)))
            self.assertEqual(how_many(web, loose), len(walks.walked(web, loose)))

    def test_kept_by_moves_and_other_names(self):
        random = Random(44)
        for web in SMALL + SEVENS + GREAT + [MIXED]:
            loose = any_loose(web, random, (1, 2, 3, 4, 5, 6, 7, 8))
            many = how_many(web, loose)
            self.assertEqual(how_many(web, done(web, loose, walks.strolled(web, loose, 99))), many)
            names = random.sample(range(web[0]), web[0])
            after = [0] * web[0]
            for bay in range(web[0]):
                after[names[bay]] = (0, 90, 5, 1, 700, 999, 2, 4, 3)[loose[bay]]
            self.assertEqual(how_many(reference.renamed(web, names), tuple(after)), many)

    def test_the_errors_in_their_order(self):
        for web in NO_WEBS:
            self.assertRaises(NoWeb, how_many, web, (0, 1))
            self.assertRaises(NoWeb, how_many, web, None)
        for loose in NO_LOOSE:
            self.assertRaises(NoStanding, how_many, TAILED, loose)
        self.assertEqual(how_many(loose=(0, 7, 7, 9), web=TAILED), 4)


class ClassesTest(unittest.TestCase):

    def test_against_walks(self):
        webs = [BRIDGE] + list(reference.all_webs(3)) + list(reference.all_webs(4)) + reference.some_webs(60, 5, 5)
        for web in webs + [web for web in SMALL if web[0] < 7]:
            self.assertEqual(classes(web), len(walks.walks(web, range(1, web[0]))), web)

    def test_each_kind(self):
        self.assertEqual([classes(web) for web in (BRIDGE, RING, EVEN, ALL, SEVEN, TAILED)], [1, 2, 2, 1, 6, 3])
        for web in SEVENS:
            self.assertEqual(classes(web), 6)
            self.assertEqual(len(walks.walks(web, range(1, 7))), 6)

    def test_great_webs(self):
        for web in (PATH, STAR):
            self.assertEqual(classes(web), factorial(39))
        self.assertEqual(classes(ROUND), factorial(38))
        self.assertEqual([classes(web) for web in (FULL, GRID, GRID_AND_TIE)], [1, 2, 1])
        self.assertEqual(classes(CHAIN), factorial(39) // 3 ** 13)
        self.assertEqual(classes(MIXED), factorial(22) // (2 * 120 * 12 * 6 * 3))

    def test_times_how_many(self):
        random = Random(45)
        webs = SMALL + SEVENS + OF_SEVEN_BAYS + GREAT + GREAT_BLOCKS + [MIXED] + reference.some_webs(20, 8, 20)
        for _ in range(10):
            webs.append(put_together(random.choices(BLOCKS, k=5), random)[0])
        for web in webs:
            standing = tuple(random.sample(range(web[0]), web[0]))
            self.assertEqual(classes(web) * how_many(web, standing), factorial(web[0]))

    def test_the_same_with_other_names(self):
        random = Random(46)
        for web in SMALL + SEVENS + GREAT + [MIXED]:
            self.assertEqual(classes(reference.renamed(web, random.sample(range(web[0]), web[0]))), classes(web))

    def test_a_tie_more(self):
        random = Random(47)
        for web in SMALL + SEVENS + [MIXED, CHAIN, ROUND, STAR] + GREAT_BLOCKS:
            ties = open_ties(web)
            for tie in random.sample(ties, min(len(ties), 25)):
                self.assertEqual(classes(web) % classes(with_tie(web, tie)), 0)

    def test_no_web(self):
        for web in NO_WEBS:
            self.assertRaises(NoWeb, classes, web)
            self.assertRaises(NoWeb, mends, web)
        self.assertEqual(classes(web=TAILED), 3)


class MendsTest(unittest.TestCase):

    def check(self, web):
        wanted = [tie for tie in open_ties(web) if classes(with_tie(web, tie)) == 1]
        self.assertEqual(mends(web), wanted, web)

    def test_against_walks(self):
        told = Counter()
        webs = [BRIDGE] + list(reference.all_webs(3)) + list(reference.all_webs(4)) + reference.some_webs(12, 5, 5)
        for web in webs + [EVEN, SMALL[6], SMALL[7]]:
            wanted = []
            for tie in open_ties(web):
                if len(walks.walks(with_tie(web, tie), range(1, web[0]))) == 1:
                    wanted.append(tie)
            self.assertEqual(mends(web), wanted, web)
            told[bool(wanted)] += 1
        self.assertGreater(min(told[True], told[False]), 3)

    def test_against_classes(self):
        for web in SMALL + SEVENS + OF_SEVEN_BAYS + GREAT_BLOCKS + [MIXED] + reference.some_webs(25, 5, 12):
            self.check(web)

    def test_what_mends(self):
        self.assertEqual(mends(RING), [(0, 2), (1, 3)])
        self.assertEqual(mends(EVEN), [(0, 1), (2, 3), (2, 4), (3, 4)])
        self.assertEqual(mends((3, ((0, 1), (1, 2)))), [(0, 2)])
        self.assertEqual(mends(TAILED), [(0, 3), (1, 3)])
        self.assertEqual(mends(GRID)[:3], [(0, 2), (0, 4), (0, 6)])

    def test_one_class_already(self):
        self.assertEqual(classes(ALL), 1)
        self.assertEqual(mends(ALL), [(1, 3)])
        self.assertEqual(mends((5, tuple((a, b) for a in range(4) for b in range(a + 1, 4)) + ((3, 4),))),
                         [(0, 4), (1, 4), (2, 4)])
        full_but_one = (40, tuple(tie for tie in FULL[1] if tie != (17, 31)))
        self.assertEqual(mends(full_but_one), [(17, 31)])

    def test_none_does(self):
        self.assertEqual(mends((4, ((0, 1), (0, 2), (0, 3)))), [])
        for web in (PATH, STAR, CHAIN, MIXED):
            self.check(web)
        self.assertEqual(mends(PATH), [])
        self.assertEqual(mends(STAR), [])

    def test_all_bays_are_tied(self):
        for many in (2, 3, 4, 7):
            self.assertEqual(mends((many, tuple((a, b) for a in range(many) for b in range(a + 1, many)))), [])
        self.assertEqual(mends(FULL), [])

    def test_the_ring_of_seven(self):
        # Its chords leave no bay on one of three ways: so none of them makes a seven.
        web = reference.web_of(7, [(k, (k + 1) % 7) for k in range(7)])
        self.check(web)
        self.assertEqual(len(mends(web)), 14)

    def test_a_tie_that_makes_a_seven_does_not_mend(self):
        for n, ties in SEVENS:
            for tie in ties:
                web = (n, tuple(other for other in ties if other != tie))
                self.check(web)
                self.assertNotIn(tie, mends(web))
                self.assertEqual(classes((n, ties)), 6)

    def test_new_lists(self):
        first = mends(web=RING)
        second = mends(RING)
        self.assertEqual(first, second)
        first.append((0, 1))
        self.assertEqual(mends(RING), second)
