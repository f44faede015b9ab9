"""Point [8]: moves from a standing to another one; what points [1] and [14] say of these."""

import unittest
from collections import Counter
from itertools import permutations
from random import Random

from sparebay.errors import NoMatch, NoStanding, NoWeb, TooGreat
from sparebay.judges import judge
from sparebay.standings import done, led
from sparebay.ways import fewest, levels, way
from sparebay.webs import first_path
from tests import reference, walks
from tests.samples import (ALL, BLOCKS, CHAIN, EVEN, FULL, GREAT_BLOCKS, GRID, GRID_AND_TIE, MIXED,
                           OF_SEVEN_BAYS, PATH, RING, ROUND, SEVEN, SEVENS, SMALL, STAR, put_together)
from tests.values import LOOSE_ONLY, NO_LOOSE, NO_WEBS, TAILED

TWO = (2, ((0, 1),))
GOES = ("goes", 0)


def strolled(web, standing, random):
    return done(web, standing, walks.strolled(web, standing, random.randrange(60, 200), random.randrange(999)))


def any_standing(web, random):
    return tuple(random.sample([0] + random.sample(range(1, 1000), web[0] - 1), web[0]))


def unled(web, standing, bay):
    """A standing with this bay empty that is led to a standing whose bay 0 is empty."""
    path = [bay] + first_path(web, bay, 0)
    return done(web, standing, path[-2::-1])


def great_turned(web, blocks, one, other):
    """Whether led to bay 0 the two differ at a bay held by a great block, by the words."""
    one, other = led(web, one, 0), led(web, other, 0)
    for block in blocks:
        if len(block) > 7 and len(reference.ties_within(web, block)) > len(block):
            gate = reference.gate_of(web, block)
            if any(one[bay] != other[bay] for bay in block if bay != gate):
                return True
    return False


def tour_within(web, block, seed):
    """Moves from bay 0 to the gate of a block, about within the block, and back."""
    inner = reference.web_of(len(block), [(block.index(a), block.index(b))
                                          for a, b in reference.ties_within(web, block)])
    gate = reference.gate_of(web, block)
    place = block.index(gate)
    about = walks.strolled(inner, tuple(0 if k == place else 1 for k in range(len(block))), 61, seed)
    about += first_path(inner, about[-1], place)
    there = [0] + first_path(web, 0, gate)
    return there[1:] + [block[place] for place in about] + there[-2::-1]


class WayTest(unittest.TestCase):

    def check(self, web, one, other, goes):
        found = way(web, one, other)
        if not goes:
            self.assertIsNone(found, (web, one, other))
            return
        self.assertIsInstance(found, list)
        self.assertLessEqual(len(found), 300000)
        self.assertEqual(done(web, one, found), other, (web, one, other))

    def test_two_bays(self):
        self.check(TWO, (0, 5), (5, 0), True)
        self.check(TWO, (5, 0), (0, 5), True)
        self.check(TWO, (5, 0), (5, 0), True)

    def test_each_pair_of_small_webs(self):
        for web in list(reference.all_webs(3)) + [RING, ALL, TAILED]:
            for group in walks.walks(web, range(1, web[0])):
                for one in sorted(group)[::2]:
                    for other in walks.standings(range(1, web[0])):
                        self.check(web, one, other, other in group)

    def test_every_web_of_four_bays(self):
        for web in reference.all_webs(4):
            for group in walks.walks(web, (9, 5, 7)):
                for one in sorted(group)[::5]:
                    for other in walks.standings((9, 5, 7))[::2]:
                        self.check(web, one, other, other in group)

    def test_webs_of_up_to_seven_bays(self):
        random = Random(11)
        for web in SMALL + SEVENS + OF_SEVEN_BAYS + BLOCKS + reference.some_webs(30, 5, 7):
            one = any_standing(web, random)
            group = walks.walked(web, one)
            for _ in range(6):
                other = random.choice(sorted(group))
                self.check(web, one, other, True)
                self.check(web, other, one, True)
                other = tuple(random.sample(one, len(one)))
                self.check(web, one, other, other in group)

    def test_the_seven_with_bays_named_in_any_way(self):
        random = Random(12)
        for _ in range(15):
            web = reference.renamed(SEVEN, random.sample(range(7), 7))
            one = any_standing(web, random)
            group = walks.walked(web, one)
            for other in random.sample(sorted(group), 8):
                self.check(web, one, other, True)
            for _ in range(8):
                other = tuple(random.sample(one, 7))
                self.check(web, one, other, other in group)

    def test_webs_put_together(self):
        random = Random(13)
        webs = []
        while len(webs) < 40:
            web, _ = put_together(random.choices(BLOCKS, k=random.randrange(2, 6)), random)
            if web[0] <= 17:
                webs.append(web)
        for web in webs:
            one = any_standing(web, random)
            self.check(web, one, strolled(web, one, random), True)
            self.check(web, strolled(web, one, random), strolled(web, one, random), True)
            other = strolled(web, walks.exchanged(one, *random.sample(range(web[0]), 2)), random)
            self.check(web, one, other, judge(web, one, other) == GOES)

    def test_forty_bays_of_small_blocks(self):
        random = Random(14)
        webs = [CHAIN, PATH, STAR]
        while len(webs) < 9:
            web, _ = put_together(random.choices(BLOCKS, k=12), random)
            if 36 <= web[0] <= 40:
                webs.append(web)
        six, _ = put_together([SEVEN] * 6, random)
        full, _ = put_together([BLOCKS[-2]] * 6, random)
        for web in webs + [six, full]:
            one = any_standing(web, random)
            other = strolled(web, strolled(web, one, random), random)
            self.check(web, one, other, True)
            self.check(web, one, one, True)
            other = walks.exchanged(other, *[bay for bay in range(web[0]) if other[bay]][:2])
            self.check(web, one, other, judge(web, one, other) == GOES)

    def test_each_bay_empty_in_both(self):
        for web in (MIXED, SMALL[-1]):
            form = tuple(range(web[0]))
            for a in range(web[0]):
                one = led(web, form, a)
                for b in range(0, web[0], 1 + web[0] // 9):
                    self.check(web, one, led(web, led(web, form, web[0] - 1), b), True)

    def test_rings_of_any_size(self):
        for many in range(3, 41):
            web = reference.web_of(many, [(k * 7 % many if many % 7 else k,
                                           (k + 1) * 7 % many if many % 7 else (k + 1) % many) for k in range(many)])
            bays = [0] + [k * 7 % many if many % 7 else k for k in range(1, many)]
            for turn in {0, 1, many // 2, many - 2}:
                one, other = [0] * many, [0] * many
                for k in range(1, many):
                    one[bays[k]] = 100 + k
                    other[bays[k]] = 100 + (k - 1 + turn) % (many - 1) + 1
                one, other = tuple(one), tuple(other)
                self.check(web, one, other, True)
                self.check(web, led(web, one, many - 1), led(web, other, many // 2), True)
                if many > 3:
                    self.check(web, one, walks.exchanged(other, bays[1], bays[2]), False)

    def test_a_great_block_that_is_turned(self):
        start = tuple(range(500, 539)) + (0,)
        self.assertRaises(TooGreat, way, GRID, start, done(GRID, start, [38, 30, 31, 39]))
        self.assertRaises(TooGreat, way, GRID_AND_TIE, start, done(GRID_AND_TIE, start, [38, 30, 39]))
        self.assertRaises(TooGreat, way, FULL, start, walks.exchanged(start, 3, 4))
        # A short way, but led to bay 0 the two are not alike.
        web = GREAT_BLOCKS[0]
        one = led(web, tuple(range(8)), 7)
        for bay in reference.near(web, 7):
            other = done(web, one, [bay])
            if led(web, other, 0) == led(web, one, 0):
                self.check(web, one, other, True)
            else:
                self.assertRaises(TooGreat, way, web, one, other)

    def test_a_great_block_that_is_not_turned(self):
        random = Random(15)
        for web in GREAT_BLOCKS[:2] + [GRID, GRID_AND_TIE, FULL]:
            start = (0,) + tuple(random.sample(range(1, 1000), web[0] - 1))
            for a in range(0, web[0], 3):
                for b in range(0, web[0], 4):
                    self.check(web, unled(web, start, a), unled(web, start, b), True)

    def test_a_bar_in_a_great_block(self):
        for web, bays in ((GRID, (3, 4)), (GREAT_BLOCKS[0], (2, 3))):
            start = tuple(range(web[0]))
            self.check(web, start, walks.exchanged(start, *bays), False)
            self.check(web, led(web, start, web[0] - 1), walks.exchanged(start, *bays), False)

    def test_great_blocks_beside_small_ones(self):
        random = Random(16)
        seen = Counter()
        for _ in range(120):
            parts = random.choices(BLOCKS, k=random.randrange(1, 4)) + [random.choice(GREAT_BLOCKS)]
            web, blocks = put_together(parts, random)
            one = any_standing(web, random)
            # Little is turned by a short walk.
            other = done(web, one, walks.strolled(web, one, random.choice((2, 5, 9, 30)), random.randrange(999)))
            if great_turned(web, blocks, one, other):
                seen["great"] += 1
                self.assertRaises(TooGreat, way, web, one, other)
            else:
                seen["small"] += led(web, one, 0) != led(web, other, 0)
                self.check(web, one, other, True)
            # With a bar, wherever it is, there is no way, and nothing is too great.
            other = walks.exchanged(other, *random.sample([bay for bay in range(web[0]) if other[bay]], 2))
            if judge(web, one, other) != GOES:
                seen["bar"] += 1
                self.check(web, one, other, False)
        self.assertGreater(min(seen["great"], seen["small"], seen["bar"]), 9)

    def test_small_blocks_turned_beside_a_great_one_that_is_not(self):
        random = Random(17)
        for great in GREAT_BLOCKS:
            for small in (RING, EVEN, ALL, SEVEN, BLOCKS[3]):
                web, blocks = put_together([great, small, TWO], random)
                start = (0,) + tuple(range(101, 100 + web[0]))
                block = [block for block in blocks if len(block) == small[0]][0]
                others = [done(web, start, tour_within(web, block, seed)) for seed in range(9)]
                other = [other for other in others if other != start][0]
                self.check(web, unled(web, start, web[0] - 1), unled(web, other, web[0] // 2), True)
                block = [block for block in blocks if len(block) == great[0]][0]
                bays = [bay for bay in block if bay != reference.gate_of(web, block)]
                if great != GREAT_BLOCKS[2]:
                    self.assertRaises(TooGreat, way, web, start, walks.exchanged(other, *bays[:3]))

    def test_the_errors_in_their_order(self):
        for web in NO_WEBS:
            self.assertRaises(NoWeb, way, web, (0, 1), (1, 0))
            self.assertRaises(NoWeb, way, web, None, None)
        for none in NO_LOOSE + LOOSE_ONLY:
            for one, other in [(none, (0, 7, 8, 9)), ((0, 7, 8, 9), none), (none, none), ((1, 2, 3, 0), none)]:
                self.assertRaises(NoStanding, way, TAILED, one, other)
        self.assertRaises(NoMatch, way, TAILED, (0, 7, 8, 9), (0, 7, 8, 10))
        start = tuple(range(40))
        turned = done(GRID, start, [1, 9, 8, 0])
        self.assertRaises(NoStanding, way, GRID, (0, 1, 1) + start[3:], turned)
        self.assertRaises(NoStanding, way, GRID, start, list(turned))
        self.assertRaises(NoMatch, way, GRID, start, turned[:-1] + (40,))
        self.assertRaises(TooGreat, way, GRID, start, turned)

    def test_by_name_and_new_lists(self):
        told = {"other": (0, 8, 7, 9), "one": (0, 7, 8, 9), "web": TAILED}
        first, second = way(**told), way(**told)
        self.assertEqual(first, second)
        first.append(99)
        self.assertEqual(way(**told), second)
        self.assertEqual(done(TAILED, (0, 7, 8, 9), second), (0, 8, 7, 9))


class FewestTest(unittest.TestCase):

    def check(self, web, one, other, away):
        found = fewest(web, one, other)
        if other not in away:
            self.assertIsNone(found)
            return
        self.assertIsInstance(found, list)
        self.assertEqual(len(found), away[other], (web, one, other))
        self.assertEqual(done(web, one, found), other)

    def test_equal_ones(self):
        for web in SMALL + SEVENS:
            for empty in range(web[0]):
                standing = tuple(range(1, empty + 1)) + (0,) + tuple(range(empty + 1, web[0]))
                self.assertEqual(fewest(web, standing, standing), [])

    def test_small_webs_against_a_walk(self):
        for web in [TWO] + list(reference.all_webs(3)) + list(reference.all_webs(4))[::3] + [RING, ALL, TAILED]:
            standings = walks.standings(range(1, web[0]))
            for one in standings[::5]:
                away = walks.steps(web, one)
                for other in standings:
                    self.check(web, one, other, away)

    def test_webs_of_five_and_six_bays_against_a_walk(self):
        random = Random(18)
        for web in SMALL + reference.some_webs(8, 5, 6):
            if web[0] > 4:
                one = any_standing(web, random)
                away = walks.steps(web, one)
                for other in random.sample(list(permutations(one)), 25):
                    self.check(web, one, other, away)
                for other in random.sample(sorted(away), min(len(away), 12)) + [list(away)[-1]]:
                    self.check(web, one, other, away)

    def test_webs_of_seven_bays_against_a_walk(self):
        random = Random(19)
        for web in SEVENS + OF_SEVEN_BAYS:
            one = any_standing(web, random)
            away = walks.steps(web, one)
            for other in random.sample(sorted(away), 4) + [list(away)[-1], tuple(random.sample(one, 7))]:
                self.check(web, one, other, away)

    def test_as_many_with_other_names(self):
        random = Random(20)
        for web in SMALL + SEVENS[:1]:
            one = any_standing(web, random)
            other = strolled(web, one, random)
            names = random.sample(range(web[0]), web[0])
            called = dict(zip(range(1, 1000), random.sample(range(1, 1000), 999)))
            called[0] = 0
            new_one, new_other = [0] * web[0], [0] * web[0]
            for bay in range(web[0]):
                new_one[names[bay]] = called[one[bay]]
                new_other[names[bay]] = called[other[bay]]
            found = fewest(reference.renamed(web, names), tuple(new_one), tuple(new_other))
            self.assertEqual(len(found), len(fewest(web, one, other)))

    def test_too_great(self):
        eight = (8, tuple((k, k + 1) for k in range(7)))
        start = tuple(range(8))
        for other in (start, (1, 0) + start[2:], (0, 2, 1) + start[3:]):
            self.assertRaises(TooGreat, fewest, eight, start, other)
        self.assertRaises(TooGreat, fewest, FULL, tuple(range(40)), tuple(range(40)))
        self.assertRaises(NoMatch, fewest, eight, start, (0, 9) + start[2:])
        self.assertRaises(NoStanding, fewest, eight, start, (0, 2, 2) + start[3:])
        self.assertRaises(NoStanding, fewest, eight, (0, 2, 2) + start[3:], start)
        self.assertRaises(NoStanding, fewest, eight, start[:7], (0, 9) + start[2:])

    def test_the_errors_in_their_order(self):
        for web in NO_WEBS:
            self.assertRaises(NoWeb, fewest, web, (0, 1), (1, 0))
            self.assertRaises(NoWeb, fewest, web, None, None)
        for none in NO_LOOSE + LOOSE_ONLY:
            for one, other in [(none, (0, 7, 8, 9)), ((0, 7, 8, 9), none), (none, none), ((1, 2, 3, 0), none)]:
                self.assertRaises(NoStanding, fewest, TAILED, one, other)
        self.assertRaises(NoMatch, fewest, TAILED, (0, 7, 8, 9), (0, 7, 8, 10))

    def test_by_name_and_new_lists(self):
        told = {"other": (0, 8, 7, 9), "one": (0, 7, 8, 9), "web": TAILED}
        first, second = fewest(**told), fewest(**told)
        self.assertEqual(first, second)
        first.append(99)
        self.assertEqual(fewest(**told), second)


class LevelsTest(unittest.TestCase):

    def check(self, web, loose):
        many = Counter(walks.steps(web, loose).values())
        self.assertEqual(levels(web, loose), [many[k] for k in range(len(many))])

    def test_two_bays(self):
        self.assertEqual(levels(TWO, (0, 5)), [1, 1])
        self.assertEqual(levels((3, ((0, 1), (1, 2))), (1, 0, 2)), [1, 2])
        self.assertEqual(levels((3, ((0, 1), (1, 2))), (0, 1, 2)), [1, 1, 1])

    def test_against_a_walk(self):
        random = Random(21)
        for web in SMALL + reference.some_webs(12, 4, 6) + SEVENS[1:] + OF_SEVEN_BAYS[::2]:
            n = web[0]
            self.check(web, any_standing(web, random))
            for kinds in ((7,), (3, 999), (1, 2, 3)):
                loose = [0] + random.choices(kinds, k=n - 1)
                self.check(web, tuple(random.sample(loose, n)))

    def test_the_same_with_other_names(self):
        random = Random(22)
        for web in SMALL + SEVENS[:1]:
            loose = tuple(random.sample([0] + random.choices((1, 2, 3, 4), k=web[0] - 1), web[0]))
            names = random.sample(range(web[0]), web[0])
            after = [0] * web[0]
            for bay in range(web[0]):
                after[names[bay]] = (0, 90, 5, 1, 700)[loose[bay]]
            self.assertEqual(levels(reference.renamed(web, names), tuple(after)), levels(web, loose))

    def test_the_errors_in_their_order(self):
        for web in NO_WEBS:
            self.assertRaises(NoWeb, levels, web, (0, 1))
            self.assertRaises(NoWeb, levels, web, None)
        for none in NO_LOOSE:
            self.assertRaises(NoStanding, levels, TAILED, none)
        for web in (PATH, ROUND, (8, tuple((0, k) for k in range(1, 8)))):
            self.assertRaises(TooGreat, levels, web, tuple(range(web[0])))
            self.assertRaises(TooGreat, levels, web, (0,) + (5,) * (web[0] - 1))
            self.assertRaises(NoStanding, levels, web, (1,) + (5,) * (web[0] - 1))

    def test_by_name_and_new_lists(self):
        first = levels(loose=(0, 1, 1, 2), web=TAILED)
        second = levels(loose=(0, 1, 1, 2), web=TAILED)
        self.assertEqual(first, second)
        first.append(99)
        self.assertEqual(levels(TAILED, (0, 1, 1, 2)), second)
