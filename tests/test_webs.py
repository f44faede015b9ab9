"""Point [2]: webs, neighbours, first paths, sides; and what point [1] says of these."""

import copy
import unittest

from sparebay.errors import NoBay, NoWeb
from sparebay.webs import first_path, is_web, neighbours, sides
from tests import reference
from tests.samples import FULL, GRID, PATH, ROUND, STAR
from tests.values import ANYTHING, NO_NUMBERS, NO_WEBS, TAILED, deep, deep_list

TREE = (40, tuple(((k - 1) // 2, k) for k in range(1, 40)))
SIX = [(0, 1), (1, 2), (2, 3), (3, 4), (4, 5), (0, 5)]


class IsWebTest(unittest.TestCase):

    def test_webs(self):
        for web in [
            (2, ((0, 1),)),
            (3, ((0, 1), (0, 2))), (3, ((0, 1), (1, 2))), (3, ((0, 2), (1, 2))),
            (3, ((0, 1), (0, 2), (1, 2))), (4, ((0, 3), (1, 3), (2, 3))), TAILED,
            (5, ((0, 1), (0, 2), (0, 3), (0, 4), (1, 2), (3, 4))),
            PATH, STAR, ROUND, FULL, TREE, GRID,
        ]:
            self.assertIs(is_web(web), True, web)

    def test_what_is_no_web(self):
        for thing in NO_WEBS:
            self.assertIs(is_web(thing), False, thing)

    def test_anything_at_all(self):
        things = [1.0, 2.5, {1, 2}, frozenset(), range(2), object(), is_web, int, iter(())]
        things += [deep(5000), deep_list(5000), (2, deep(5000)), (2, ((0, deep(5000)),))]
        for thing in things + [(2, thing) for thing in things] + [(thing, ()) for thing in things]:
            self.assertIs(is_web(thing), False)

    def test_every_small_web_and_nothing_else(self):
        webs = set(reference.all_webs(4))
        pairs = [(a, b) for a in range(4) for b in range(a + 1, 4)]
        for bits in range(2 ** len(pairs)):
            thing = (4, tuple(pair for k, pair in enumerate(pairs) if bits >> k & 1))
            self.assertIs(is_web(thing), thing in webs, thing)

    def test_parts_exchanged_left_out_and_turned_round(self):
        n, ties = TAILED
        for k in range(3):
            turned = ties[:k] + (ties[k][::-1],) + ties[k + 1:]
            self.assertIs(is_web((n, turned)), False)
            exchanged = ties[:k] + (ties[k + 1], ties[k]) + ties[k + 2:]
            self.assertIs(is_web((n, exchanged)), False)
            self.assertIs(is_web((n, ties[:k] + ties[k + 1:])), True)
        self.assertIs(is_web((n, ties[:3])), False)
        self.assertIs(is_web((n, ties[::-1])), False)
        self.assertIs(is_web((n + 1, ties)), False)
        self.assertIs(is_web((n - 1, ties)), False)
        self.assertIs(is_web((ties, n)), False)
        self.assertIs(is_web((n, list(ties))), False)
        self.assertIs(is_web((n, tuple(map(list, ties)))), False)

    def test_many_members(self):
        self.assertIs(is_web((40, FULL[1] * 25)), False)
        self.assertIs(is_web(tuple(range(20000))), False)
        self.assertIs(is_web((40, tuple(range(20000)))), False)

    def test_by_name(self):
        self.assertIs(is_web(thing=TAILED), True)
        self.assertIs(is_web(thing=None), False)


class NeighboursTest(unittest.TestCase):

    def test_bays(self):
        self.assertEqual([neighbours(TAILED, bay) for bay in range(4)], [[1, 2], [0, 2], [0, 1, 3], [2]])
        self.assertEqual(neighbours((2, ((0, 1),)), 0), [1])
        self.assertEqual(neighbours((2, ((0, 1),)), 1), [0])

    def test_forty_bays(self):
        self.assertEqual(neighbours(STAR, 0), list(range(1, 40)))
        self.assertEqual(neighbours(STAR, 39), [0])
        self.assertEqual(neighbours(ROUND, 0), [1, 39])
        self.assertEqual(neighbours(ROUND, 39), [0, 38])
        self.assertEqual(neighbours(TREE, 4), [1, 9, 10])
        self.assertEqual(neighbours(FULL, 20), list(range(20)) + list(range(21, 40)))

    def test_against_the_words(self):
        for web in list(reference.all_webs(4)) + reference.some_webs(60, 5, 12):
            for bay in range(web[0]):
                self.assertEqual(neighbours(web, bay), sorted(reference.near(web, bay)))

    def test_by_name(self):
        self.assertEqual(neighbours(bay=3, web=TAILED), [2])

    def test_lists_are_new(self):
        found = neighbours(TAILED, 2)
        found.append(9)
        self.assertEqual(neighbours(TAILED, 2), [0, 1, 3])

    def test_no_web(self):
        for thing in NO_WEBS:
            for bay in (0, 1, 99, None):
                self.assertRaises(NoWeb, neighbours, thing, bay)

    def test_no_bay(self):
        for thing in NO_NUMBERS + [4, 5, 40]:
            self.assertRaises(NoBay, neighbours, TAILED, thing)
        self.assertRaises(NoBay, neighbours, (2, ((0, 1),)), 2)
        self.assertRaises(NoBay, neighbours, FULL, 40)


class FirstPathTest(unittest.TestCase):

    def test_the_same_bay(self):
        for bay in range(4):
            self.assertEqual(first_path(TAILED, bay, bay), [])

    def test_one_way(self):
        self.assertEqual(first_path(TAILED, 1, 3), [2, 3])
        self.assertEqual(first_path(TAILED, 3, 1), [2, 1])
        self.assertEqual(first_path(TAILED, 0, 3), [2, 3])
        self.assertEqual(first_path((2, ((0, 1),)), 0, 1), [1])
        self.assertEqual(first_path((2, ((0, 1),)), 1, 0), [0])

    def test_the_first_of_several(self):
        ring = reference.web_of(6, SIX)
        self.assertEqual(first_path(ring, 0, 3), [1, 2, 3])
        self.assertEqual(first_path(ring, 3, 0), [2, 1, 0])
        self.assertEqual(first_path(ring, 1, 4), [0, 5, 4])
        self.assertEqual(first_path(ring, 4, 1), [3, 2, 1])
        # The way back from the other end would go by bay 1 first, not by bay 4.
        web = reference.web_of(6, [(0, 2), (2, 4), (4, 5), (0, 3), (3, 1), (1, 5)])
        self.assertEqual(first_path(web, 0, 5), [2, 4, 5])
        self.assertEqual(first_path(web, 5, 0), [1, 3, 0])

    def test_a_lesser_neighbour_that_is_no_nearer(self):
        web = reference.web_of(5, [(2, 0), (0, 1), (1, 4), (2, 3), (3, 4)])
        self.assertEqual(first_path(web, 2, 4), [3, 4])

    def test_forty_bays(self):
        self.assertEqual(first_path(PATH, 0, 39), list(range(1, 40)))
        self.assertEqual(first_path(PATH, 39, 0), list(range(38, -1, -1)))
        self.assertEqual(first_path(ROUND, 0, 20), list(range(1, 21)))
        self.assertEqual(first_path(ROUND, 0, 21), list(range(39, 20, -1)))
        self.assertEqual(first_path(STAR, 7, 33), [0, 33])
        self.assertEqual(first_path(FULL, 7, 33), [33])
        self.assertEqual(first_path(GRID, 0, 39), [1, 2, 3, 4, 5, 6, 7, 15, 23, 31, 39])
        self.assertEqual(first_path(GRID, 39, 0), [31, 23, 15, 7, 6, 5, 4, 3, 2, 1, 0])

    def test_against_the_words(self):
        for web in list(reference.all_webs(4)) + reference.some_webs(80, 5, 9):
            for a in range(web[0]):
                for b in range(web[0]):
                    self.assertEqual(first_path(web, a, b), reference.first_path(web, a, b), (web, a, b))

    def test_by_name(self):
        self.assertEqual(first_path(b=3, a=1, web=TAILED), [2, 3])

    def test_lists_are_new(self):
        for a, b in ((1, 3), (1, 1)):
            kept = list(first_path(TAILED, a, b))
            first_path(TAILED, a, b).append(9)
            self.assertEqual(first_path(TAILED, a, b), kept)

    def test_no_web_comes_first(self):
        for thing in NO_WEBS:
            self.assertRaises(NoWeb, first_path, thing, 0, 1)
            self.assertRaises(NoWeb, first_path, thing, None, 99)

    def test_no_bay(self):
        for thing in NO_NUMBERS + [4, 5, 40]:
            self.assertRaises(NoBay, first_path, TAILED, thing, 0)
            self.assertRaises(NoBay, first_path, TAILED, 0, thing)
            self.assertRaises(NoBay, first_path, TAILED, thing, thing)


class SidesTest(unittest.TestCase):

    def test_two_sided(self):
        self.assertEqual(sides((2, ((0, 1),))), (0, 1))
        self.assertEqual(sides((3, ((0, 2), (1, 2)))), (0, 0, 1))
        self.assertEqual(sides((4, ((0, 1), (0, 3), (1, 2), (2, 3)))), (0, 1, 0, 1))
        self.assertEqual(sides((4, ((0, 3), (1, 3), (2, 3)))), (0, 0, 0, 1))

    def test_not_two_sided(self):
        self.assertIsNone(sides(TAILED))
        self.assertIsNone(sides((3, ((0, 1), (0, 2), (1, 2)))))
        self.assertIsNone(sides((5, ((0, 1), (0, 4), (1, 2), (2, 3), (3, 4)))))
        self.assertIsNone(sides(reference.web_of(6, [(0, 1), (1, 2), (2, 3), (3, 4), (4, 5), (3, 5)])))

    def test_forty_bays(self):
        self.assertEqual(sides(PATH), (0, 1) * 20)
        self.assertEqual(sides(ROUND), (0, 1) * 20)
        self.assertEqual(sides(STAR), (0,) + (1,) * 39)
        self.assertEqual(sides(GRID), ((0, 1) * 4 + (1, 0) * 4) * 2 + (0, 1) * 4)
        self.assertIsNone(sides(FULL))
        self.assertIsNone(sides((40, tuple(sorted(PATH[1] + ((37, 39),))))))

    def test_against_the_words(self):
        for web in list(reference.all_webs(4)) + reference.some_webs(80, 5, 9):
            self.assertEqual(sides(web), reference.sides(web), web)

    def test_by_name(self):
        self.assertEqual(sides(web=(2, ((0, 1),))), (0, 1))

    def test_no_web(self):
        for thing in NO_WEBS:
            self.assertRaises(NoWeb, sides, thing)


class NothingChangesTest(unittest.TestCase):

    def test_arguments_stay(self):
        things = NO_WEBS + ANYTHING
        kept = copy.deepcopy(things)
        for thing in things:
            is_web(thing)
            for call in (lambda: sides(thing), lambda: neighbours(TAILED, thing)):
                try:
                    call()
                except (NoWeb, NoBay):
                    pass
        self.assertEqual(repr(things), repr(kept))
