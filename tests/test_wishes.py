"""Point [11]: wishes, and what meets them; and what point [1] says of these."""

import unittest
from collections import Counter
from itertools import product
from random import Random

from sparebay.blocks import blocks, gates, kinds, round_of
from sparebay.errors import NoStanding, NoWeb, NoWish
from sparebay.judges import judge
from sparebay.standings import done, is_loose, led
from sparebay.wishes import meeting
from tests import reference, walks
from tests.samples import (ALL, BLOCKS, BRIDGE, CHAIN, EVEN, FULL, GREAT, GREAT_BLOCKS, GRID, GRID_AND_TIE, MIXED,
                           OF_SEVEN_BAYS, PATH, RING, ROUND, SEVEN, SEVENS, SMALL, STAR, put_together)
from tests.values import ANYTHING, NO_LOOSE, NO_WEBS, TAILED, deep, deep_list

GOES = ("goes", 0)

# What is no wish of a web of four bays.
NO_WISHES = ANYTHING + [
    [0, 7, 8, 9], [0, None, None, None], {0: 7, 1: 8, 2: 9, 3: 0}, "0789", ((0, 7, 8, 9),), [(0, 7, 8, 9)],
    (0,), (0, None), (0, 7, 8), (0, None, None), (0, 7, 8, 9, 10), (0, None, None, None, None), (None,) * 40,
    (0, 0, 8, 9), (0, None, 0, None), (0, 0, 0, 0), (7, 8, 9, 10), (None, None, None, None), (7, None, 8, None),
    (0, 7, 8, 1000), (0, None, 1000, None), (1001, 0, None, 9), (0, 7, None, -1), (None, -7, 0, 9), (0, None, 10 ** 60, 1),
    (0, 7, 8, True), (True, 0, None, 9), (False, 7, 8, 9), (False, None, None, None), (None, None, None, False),
    (0, False, None, 9), (0, None, None, "9"), ("0", None, 8, 9), (0, None, ""), (0, 7, None, ()), (0, None, (8,), 9),
    (0, [None], 8, 9), (0, [], None, None), (0, {}, None, None), (0, None, 8, b"9"), (0, deep(11), None, None),
    (0, None, deep_list(11), None), (deep(11), None, None, None), tuple(range(20000)),
]


def meets(loose, wish):
    return all(wished in (None, piece) for piece, wished in zip(loose, wish))


def any_loose(web, random, pieces):
    return tuple(random.sample([0] + random.choices(pieces, k=web[0] - 1), web[0]))


def opened(loose, random, many):
    """A loose standing as a wish with so many of its bays open."""
    bays = random.sample([bay for bay in range(len(loose)) if loose[bay]], many)
    return tuple(None if bay in bays else piece for bay, piece in enumerate(loose))


def leads_loosely(web, one, other):
    """Whether one loose standing leads to another one, by the numbers of point [10] for each block."""
    one, other = led(web, one, 0), led(web, other, 0)
    for k, (block, gate) in enumerate(zip(blocks(web), gates(web))):
        held = [bay for bay in block if bay != gate]
        before, after = [one[bay] for bay in held], [other[bay] for bay in held]
        kind = kinds(web)[k]
        if sorted(before) != sorted(after):
            return False
        if kind == "ring":
            bays = round_of(web, k)[1:]
            row = [one[bay] for bay in bays]
            if [other[bay] for bay in bays] not in [row[at:] + row[:at] for at in range(len(row))]:
                return False
        if kind == "even" and len(set(before)) == len(before) and walks.swaps(before, after) % 2:
            return False
        if kind == "seven":
            inner = reference.web_of(7, [(block.index(a), block.index(b))
                                         for a, b in reference.ties_within(web, block)])
            orders = [tuple(0 if bay == gate else standing[bay] for bay in block) for standing in (one, other)]
            if orders[1] not in walks.walked(inner, orders[0]):
                return False
    return True


class SmallTest(unittest.TestCase):

    def check(self, web, group, loose, wish):
        """Told is what meets the wish and is in the group that loose leads to; None if nothing is."""
        told = meeting(web, loose, wish)
        if any(meets(standing, wish) for standing in group):
            self.assertIn(told, group, (web, loose, wish))
            self.assertTrue(meets(told, wish), (web, loose, wish))
        else:
            self.assertIsNone(told, (web, loose, wish))
        return told is not None

    def test_each_kind(self):
        self.assertEqual(meeting(BRIDGE, (0, 5), (None, 0)), (5, 0))
        self.assertEqual(meeting(BRIDGE, (5, 0), (0, 5)), (0, 5))
        self.assertIsNone(meeting(BRIDGE, (5, 0), (0, 6)))
        self.assertEqual(meeting(RING, (0, 1, 2, 3), (0, 2, None, None)), (0, 2, 3, 1))
        self.assertIsNone(meeting(RING, (0, 1, 2, 3), (0, 2, 1, None)))
        self.assertEqual(meeting(ALL, (0, 1, 2, 3), (0, 2, 1, None)), (0, 2, 1, 3))
        self.assertEqual(meeting(EVEN, (0, 1, 2, 3, 4), (0, 2, 1, None, None)), (0, 2, 1, 4, 3))
        self.assertEqual(meeting(EVEN, (0, 1, 2, 3, 4), (0, 2, 3, 1, None)), (0, 2, 3, 1, 4))
        self.assertIsNone(meeting(EVEN, (0, 1, 2, 3, 4), (0, 2, 1, 3, None)))
        self.assertIsNone(meeting(EVEN, (0, 1, 2, 3, 4), (0, 2, 1, 3, 4)))
        self.assertEqual(meeting(EVEN, (0, 1, 2, 3, 3), (0, 2, 1, 3, None)), (0, 2, 1, 3, 3))
        self.assertEqual(meeting(EVEN, (0, 1, 2, 3, 3), (0, 2, 1, 3, 3)), (0, 2, 1, 3, 3))

    def test_every_wish_of_small_webs(self):
        for web in [TAILED, RING, ALL] + list(reference.all_webs(3)) + list(reference.all_webs(4))[::9]:
            for pieces in ((1, 2, 3), (1, 1, 2), (5, 5, 5)):
                loose = pieces[:web[0] - 1] + (0,)
                group = walks.walked(web, loose)
                kinds_wished = sorted({*pieces, 9}) + [None, 0]
                for wish in product(kinds_wished, repeat=web[0]):
                    if wish.count(0) == 1:
                        self.check(web, group, loose, wish)

    def test_webs_of_up_to_six_bays(self):
        random = Random(61)
        seen = Counter()
        for web in SMALL + reference.some_webs(30, 5, 6):
            for pieces in (range(1, 1000), (1, 2, 3, 4), (1, 2), (7,)):
                loose = any_loose(web, random, pieces)
                group = walks.walked(web, loose)
                for _ in range(5):
                    many = random.randrange(web[0])
                    seen[self.check(web, group, loose, opened(random.choice(sorted(group)), random, many))] += 1
                    shuffled = tuple(random.sample(loose, web[0]))
                    seen[self.check(web, group, loose, opened(shuffled, random, many))] += 1
                    # Pieces that the standing lacks, or one several times.
                    other = any_loose(web, random, sorted(set(loose) - {0}) + [888])
                    seen[self.check(web, group, loose, opened(other, random, many))] += 1
        self.assertGreater(min(seen[True], seen[False]), 400)

    def test_the_seven_and_webs_of_seven_bays(self):
        random = Random(62)
        seen = Counter()
        for web in SEVENS + OF_SEVEN_BAYS + [reference.renamed(SEVEN, random.sample(range(7), 7)) for _ in range(4)]:
            for pieces in (range(1, 1000), (1, 2, 3, 4), (1, 2)):
                loose = any_loose(web, random, pieces)
                group = walks.walked(web, loose)
                for _ in range(4):
                    many = random.randrange(5)
                    seen[self.check(web, group, loose, opened(random.choice(sorted(group)), random, many))] += 1
                    shuffled = tuple(random.sample(loose, web[0]))
                    seen[self.check(web, group, loose, opened(shuffled, random, many))] += 1
        self.assertGreater(min(seen[True], seen[False]), 20)

    def test_all_bays_open_but_one(self):
        random = Random(63)
        for web in SMALL + SEVENS:
            loose = any_loose(web, random, (1, 2, 3))
            group = walks.walked(web, loose)
            for empty in range(web[0]):
                wish = tuple(0 if bay == empty else None for bay in range(web[0]))
                self.assertTrue(self.check(web, group, loose, wish))
                for bay in range(web[0]):
                    for piece in (1, 2, 3, 4):
                        if bay != empty:
                            self.check(web, group, loose, wish[:bay] + (piece,) + wish[bay + 1:])

    def test_no_bay_open(self):
        random = Random(64)
        for web in SMALL:
            loose = tuple(random.sample(range(web[0]), web[0]))
            group = walks.walked(web, loose)
            for standing in random.sample(sorted(group), min(len(group), 8)):
                self.assertEqual(meeting(web, loose, standing), standing)
                self.check(web, group, loose, tuple(random.sample(standing, web[0])))

    def test_two_open_bays_of_an_even_block(self):
        """What counts is what is open when the empty bay is led to bay 0."""
        for loose in ((0, 1, 2, 3, 4), (1, 2, 3, 0, 4), (4, 0, 3, 2, 1)):
            group = walks.walked(EVEN, loose)
            for wish in product((0, None, 1, 2, 3, 4), repeat=5):
                if wish.count(0) == 1 and wish.count(None) <= 2:
                    self.check(EVEN, group, loose, wish)


class GreaterTest(unittest.TestCase):

    def check(self, web, loose, wish):
        told = meeting(web, loose, wish)
        self.assertTrue(is_loose(web, told), (web, loose, wish))
        self.assertTrue(meets(told, wish))
        self.assertTrue(leads_loosely(web, loose, told))
        if len(set(loose)) == len(loose):
            self.assertEqual(judge(web, loose, told), GOES)

    def test_webs_of_seven_to_nine_bays_against_a_walk(self):
        random = Random(65)
        webs = []
        while len(webs) < 8:
            web, _ = put_together(random.choices(BLOCKS[:6] + BLOCKS[7:8], k=3), random)
            if 7 <= web[0] <= 9:
                webs.append(web)
        for web in webs:
            loose = any_loose(web, random, (1, 2, 3, 4))
            group = walks.walked(web, loose)
            for _ in range(6):
                self.check(web, loose, opened(random.choice(list(group)), random, random.randrange(4)))
                wish = opened(tuple(random.sample(loose, web[0])), random, random.randrange(4))
                wanted = any(meets(standing, wish) for standing in group)
                self.assertEqual(meeting(web, loose, wish) is not None, wanted)

    def test_great_webs(self):
        random = Random(66)
        webs = GREAT + [MIXED]
        while len(webs) < 30:
            web, _ = put_together(random.choices(BLOCKS + GREAT_BLOCKS, k=random.randrange(3, 9)), random)
            if web[0] <= 40:
                webs.append(web)
        for web in webs:
            for pieces in (range(1, web[0]), range(1, 1000), (1, 2, 3), (5,)):
                loose = any_loose(web, random, pieces)
                if pieces == range(1, web[0]):
                    loose = tuple(random.sample(range(web[0]), web[0]))
                end = done(web, loose, walks.strolled(web, loose, 150, random.randrange(999)))
                for many in {0, 1, 2, 5, web[0] // 2, web[0] - 2, web[0] - 1} - {-1}:
                    self.check(web, loose, opened(end, random, min(many, web[0] - 1)))

    def test_great_webs_that_cannot(self):
        start = tuple(range(40))
        for web in (PATH, STAR):
            self.assertIsNone(meeting(web, start, (0, 2) + (None,) * 38))
            self.assertEqual(meeting(web, start, (0, 1) + (None,) * 38), start)
        self.assertIsNone(meeting(ROUND, start, (0, 2, 1) + (None,) * 37))
        self.assertEqual(meeting(ROUND, start, (0, 2, 3) + (None,) * 37), (0,) + start[2:] + (1,))
        odd = (0, 2, 1) + start[3:]
        self.assertIsNone(meeting(GRID, start, odd))
        self.assertIsNone(meeting(GRID, start, odd[:20] + (None,) + odd[21:]))
        self.assertEqual(meeting(GRID, start, odd[:20] + (None, None) + odd[22:]), odd[:20] + (21, 20) + odd[22:])
        self.assertEqual(meeting(GRID, (0, 1, 2) + (7,) + start[3:39], (0, 2, 1) + (7,) + start[3:39]),
                         (0, 2, 1) + (7,) + start[3:39])
        self.assertEqual(meeting(FULL, start, odd), odd)
        self.assertEqual(meeting(GRID_AND_TIE, start, odd), odd)
        for web in GREAT:
            self.assertIsNone(meeting(web, start, (0, 999) + (None,) * 38))
            self.assertIsNone(meeting(web, start, (0, 5, 5) + (None,) * 37))
        self.assertIsNone(meeting(CHAIN, start, (0, 3, 2, 1) + (None,) * 36))
        self.assertIsNone(meeting(CHAIN, start, (None,) * 30 + (1,) + (None,) * 8 + (0,)))

    def test_the_empty_bay_of_the_wish_anywhere(self):
        random = Random(67)
        for web in (MIXED, CHAIN, GRID):
            loose = tuple(random.sample(range(web[0]), web[0]))
            for empty in range(web[0]):
                self.check(web, loose, opened(led(web, loose, empty), random, web[0] // 3))


class ErrorsTest(unittest.TestCase):

    def test_no_wish(self):
        for wish in NO_WISHES:
            self.assertRaises(NoWish, meeting, TAILED, (0, 7, 8, 9), wish)
            self.assertRaises(NoWish, meeting, TAILED, (0, 7, 7, 9), wish)

    def test_the_earliest_error_first(self):
        for web in NO_WEBS:
            self.assertRaises(NoWeb, meeting, web, (0, 1), (0, 1))
            self.assertRaises(NoWeb, meeting, web, None, None)
        for loose in NO_LOOSE + [(0, None, 8, 9)]:
            for wish in ((0, 7, 8, 9), None, (0, 0, 1, 1)):
                self.assertRaises(NoStanding, meeting, TAILED, loose, wish)

    def test_by_name_and_arguments_stay(self):
        self.assertEqual(meeting(wish=(0, 8, None, None), loose=(0, 7, 8, 9), web=TAILED), (0, 8, 7, 9))
        things = [[0, None, [7], 9], (0, [None], 8, 9), [0, 7, 8, 9]]
        kept = repr(things)
        for thing in things:
            self.assertRaises(NoWish, meeting, TAILED, (0, 7, 8, 9), thing)
        self.assertEqual(repr(things), kept)

    def test_a_wish_is_not_changed_into_what_it_is_not(self):
        self.assertRaises(NoWish, meeting, TAILED, (0, 1, 2, 3), (0, True, 2, 3))
        self.assertEqual(meeting(TAILED, (0, 1, 2, 3), (0, 1, 2, 3)), (0, 1, 2, 3))
