"""Point [7]: normal forms; what point [14] says of them; and what point [1] says of these."""

import unittest
from random import Random

from sparebay.errors import NoStanding, NoWeb
from sparebay.forms import normal_form
from sparebay.judges import judge
from sparebay.standings import done, led
from tests import reference, walks
from tests.samples import (ALL, CHAIN, EVEN, FULL, GREAT, GRID, GRID_AND_TIE, MIXED, OF_SEVEN_BAYS,
                           PATH, RING, ROUND, SEVEN, SEVENS, SMALL, STAR)
from tests.values import LOOSE_ONLY, NO_LOOSE, NO_WEBS, TAILED


def first_of(group):
    """The first of all standings of a group whose bay 0 is the empty one."""
    return min(standing for standing in group if standing[0] == 0)


def strolled(web, standing, seed):
    return done(web, standing, walks.strolled(web, standing, 120 + seed % 5, seed))


class NormalFormTest(unittest.TestCase):

    def test_bridges(self):
        two = (2, ((0, 1),))
        self.assertEqual(normal_form(two, (0, 5)), (0, 5))
        self.assertEqual(normal_form(two, (5, 0)), (0, 5))
        path = (3, ((0, 1), (1, 2)))
        self.assertEqual(normal_form(path, (7, 8, 0)), (0, 7, 8))
        self.assertEqual(normal_form(path, (8, 0, 7)), (0, 8, 7))

    def test_rings(self):
        for standing in [(0, 1, 2, 3), (0, 2, 3, 1), (0, 3, 1, 2), (1, 0, 2, 3), (2, 3, 0, 1), (3, 1, 2, 0)]:
            self.assertEqual(normal_form(RING, standing), (0, 1, 2, 3))
        for standing in [(0, 1, 3, 2), (0, 2, 1, 3), (0, 3, 2, 1), (3, 0, 2, 1), (1, 3, 2, 0)]:
            self.assertEqual(normal_form(RING, standing), (0, 1, 3, 2))
        # The round is 0, 2, 4, 1, 3: so the first form is not the first rotation of the list.
        web = reference.web_of(5, [(0, 2), (2, 4), (4, 1), (1, 3), (3, 0)])
        self.assertEqual(normal_form(web, (0, 30, 10, 40, 20)), (0, 10, 30, 20, 40))

    def test_even_and_all(self):
        self.assertEqual(normal_form(EVEN, (0, 4, 3, 2, 1)), (0, 1, 2, 3, 4))
        self.assertEqual(normal_form(EVEN, (0, 4, 3, 1, 2)), (0, 1, 2, 4, 3))
        self.assertEqual(normal_form(ALL, (0, 30, 20, 10)), (0, 10, 20, 30))
        self.assertEqual(normal_form(ALL, (0, 20, 30, 10)), (0, 10, 20, 30))

    def test_several_blocks(self):
        self.assertEqual(normal_form(TAILED, (0, 9, 8, 7)), (0, 8, 9, 7))
        self.assertEqual(normal_form(TAILED, (9, 8, 7, 0)), (0, 8, 9, 7))
        pieces = tuple(range(22, 0, -1))
        self.assertEqual(
            normal_form(MIXED, (0,) + pieces),
            (0, 3, 21, 20, 14, 15, 16, 18, 19, 17, 10, 11, 12, 13, 7, 8, 9, 4, 6, 5, 22, 2, 1))

    def test_against_a_walk(self):
        webs = SMALL + reference.some_webs(12, 5, 6)
        for web in webs:
            pieces = (1, 2, 3, 4, 5) if web[0] < 6 else (3, 12, 70, 500, 999)
            for group in walks.walks(web, pieces[:web[0] - 1]):
                first = first_of(group)
                for standing in group:
                    self.assertEqual(normal_form(web, standing), first, (web, standing))

    def test_every_web_of_four_bays_against_a_walk(self):
        for web in reference.all_webs(4):
            for group in walks.walks(web, (10, 5, 7)):
                first = first_of(group)
                self.assertEqual({normal_form(web, standing) for standing in group}, {first})

    def test_webs_of_seven_bays_against_a_walk(self):
        random = Random(2)
        for web in SEVENS + OF_SEVEN_BAYS + reference.some_webs(6, 7, 7):
            for _ in range(3):
                group = walks.walked(web, tuple(random.sample(range(7), 7)))
                first = first_of(group)
                for standing in random.sample(sorted(group), min(len(group), 60)) + [first]:
                    self.assertEqual(normal_form(web, standing), first, (web, standing))

    def test_equal_exactly_if_one_leads_to_the_other(self):
        random = Random(3)
        for web in SMALL + SEVENS + OF_SEVEN_BAYS + [MIXED]:
            start = list(range(web[0]))
            for _ in range(12):
                one = tuple(random.sample(start, len(start)))
                other = tuple(random.sample(start, len(start)))
                same = normal_form(web, one) == normal_form(web, other)
                self.assertEqual(same, judge(web, one, other) == ("goes", 0))

    def test_kept_by_moves_and_by_itself(self):
        random = Random(4)
        for web in SMALL + SEVENS + OF_SEVEN_BAYS + GREAT + [MIXED]:
            for seed in range(4):
                standing = tuple(random.sample([0] + random.sample(range(1, 1000), web[0] - 1), web[0]))
                form = normal_form(web, standing)
                self.assertEqual(normal_form(web, form), form)
                self.assertEqual(normal_form(web, strolled(web, standing, seed)), form)
                self.assertEqual(form[0], 0)
                self.assertEqual(sorted(form), sorted(standing))
                self.assertEqual(judge(web, standing, form), ("goes", 0))
                self.assertLessEqual(form, led(web, standing, 0))

    def test_one_move_after_the_other(self):
        for web in (TAILED, EVEN, SEVEN, CHAIN, MIXED):
            standing = tuple(range(1, web[0])) + (0,)
            form = normal_form(web, standing)
            for bay in walks.strolled(web, standing, 40):
                standing = done(web, standing, [bay])
                self.assertEqual(normal_form(web, standing), form)

    def test_a_great_even_block(self):
        random = Random(8)
        sorted_form = (0,) + tuple(range(1, 40))
        odd_form = sorted_form[:38] + (39, 38)
        for seed in range(6):
            order = list(sorted_form)
            for _ in range(seed):
                a, b = random.sample(range(1, 40), 2)
                order[a], order[b] = order[b], order[a]
            standing = strolled(GRID, tuple(order), seed)
            self.assertEqual(normal_form(GRID, standing), odd_form if seed % 2 else sorted_form)
            self.assertEqual(normal_form(GRID_AND_TIE, standing), sorted_form)
            a, b, c = random.sample([bay for bay in range(40) if standing[bay]], 3)
            two, three = list(standing), list(standing)
            two[a], two[b] = standing[b], standing[a]
            three[a], three[b], three[c] = standing[b], standing[c], standing[a]
            self.assertNotEqual(normal_form(GRID, tuple(two)), normal_form(GRID, standing))
            self.assertEqual(normal_form(GRID, tuple(three)), normal_form(GRID, standing))
            self.assertEqual(normal_form(GRID_AND_TIE, tuple(two)), sorted_form)
            self.assertEqual(normal_form(FULL, tuple(two)), sorted_form)

    def test_other_great_webs(self):
        start = tuple(range(40))
        for web in (PATH, STAR):
            order = (0,) + start[:0:-1]
            self.assertEqual(normal_form(web, strolled(web, order, 3)), order)
        turned = (0,) + start[30:] + start[1:30]
        self.assertEqual(normal_form(ROUND, strolled(ROUND, turned, 4)), start)
        back = (0, 1) + start[:1:-1]
        self.assertEqual(normal_form(ROUND, strolled(ROUND, (0,) + start[:0:-1], 5)), back)
        order = []
        for k in range(1, 40, 3):
            order += [k + 2, k + 1, k]
        wanted = []
        for k in range(1, 40, 3):
            wanted += [k, k + 2, k + 1]
        self.assertEqual(normal_form(CHAIN, strolled(CHAIN, (0, *order), 6)), (0, *wanted))

    def test_the_seven_with_bays_named_in_any_way(self):
        random = Random(9)
        for _ in range(20):
            web = reference.renamed(SEVEN, random.sample(range(7), 7))
            pieces = sorted(random.sample(range(1, 1000), 6))
            groups = walks.walks(web, pieces)
            self.assertEqual(len(groups), 6)
            firsts = [first_of(group) for group in groups]
            for first, group in zip(firsts, groups):
                self.assertEqual(sum(standing[0] == 0 for standing in group), 120)
                for standing in random.sample(sorted(group), 15):
                    self.assertEqual(normal_form(web, standing), first)

    def test_the_hundred_and_twenty_orders_of_the_seven(self):
        for web in SEVENS:
            for group in walks.walks(web, range(1, 7)):
                orders = [standing for standing in group if standing[0] == 0]
                self.assertEqual(len(orders), 120)
                self.assertEqual({normal_form(web, order) for order in orders}, {min(orders)})

    def test_a_tie_more_makes_no_form_later(self):
        random = Random(10)
        for web in SMALL + OF_SEVEN_BAYS + SEVENS:
            n, ties = web
            standing = tuple(random.sample(range(n), n))
            for a in range(n):
                for b in range(a + 1, n):
                    more = reference.web_of(n, list(ties) + [(a, b)])
                    self.assertLessEqual(normal_form(more, standing), normal_form(web, standing))

    def test_no_web_comes_first(self):
        for web in NO_WEBS:
            for standing in [(0, 1), (0, 7, 8, 9), None, web]:
                self.assertRaises(NoWeb, normal_form, web, standing)

    def test_no_standing(self):
        for standing in NO_LOOSE + LOOSE_ONLY:
            self.assertRaises(NoStanding, normal_form, TAILED, standing)

    def test_by_name(self):
        self.assertEqual(normal_form(standing=(0, 9, 8, 7), web=TAILED), (0, 8, 9, 7))
