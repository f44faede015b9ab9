"""Points [6] and [7]: what leads to what, and the bars; and what point [1] says of these."""

import unittest
from itertools import permutations
from random import Random

from sparebay.errors import NoMatch, NoStanding, NoWeb
from sparebay.judges import judge, shows_judged
from sparebay.standings import done
from tests import reference, walks
from tests.samples import (ALL, CHAIN, EVEN, FULL, GREAT, GRID, GRID_AND_TIE, MIXED, OF_SEVEN_BAYS,
                           PATH, RING, ROUND, SEVEN, SEVENS, SMALL, STAR)
from tests.values import ANYTHING, LOOSE_ONLY, NO_LOOSE, NO_WEBS, TAILED, deep, deep_list

GOES = ("goes", 0)
TWO_RINGS = reference.web_of(6, [(0, 1), (1, 2), (2, 0), (2, 3), (3, 4), (4, 5), (5, 2)])
WORDS = ("goes", "held", "ring", "class", "sign")


def strolled(web, standing, seed):
    """A standing that moves reach from this one, its empty bay anywhere."""
    return done(web, standing, walks.strolled(web, standing, 150 + seed % 7, seed))


class JudgeTest(unittest.TestCase):

    def check(self, web, one, other, *bars):
        """These are all the bars from one to other, the first one first."""
        self.assertEqual(judge(web, one, other), bars[0])
        pieces = [0] + [piece for piece in one if piece]
        for word in WORDS:
            for number in sorted({*range(-1, 14), *pieces, 1000}):
                shown = (word, number) in bars
                self.assertIs(shows_judged(web, one, other, (word, number)), shown, (word, number))

    def test_a_standing_and_itself(self):
        for web in SMALL + SEVENS + GREAT + [MIXED]:
            for empty in {0, 1, web[0] - 1}:
                standing = tuple(range(1, empty + 1)) + (0,) + tuple(range(900, 899 + web[0] - empty))
                self.assertEqual(judge(web, standing, standing), GOES)
                self.assertIs(shows_judged(web, standing, standing, GOES), True)

    def test_bridges(self):
        two = (2, ((0, 1),))
        self.check(two, (0, 5), (5, 0), GOES)
        self.check(two, (5, 0), (0, 5), GOES)
        path = (3, ((0, 1), (1, 2)))
        self.check(path, (0, 7, 8), (7, 8, 0), GOES)
        self.check(path, (0, 7, 8), (8, 7, 0), ("held", 7), ("held", 8))
        self.check(path, (0, 8, 7), (7, 0, 8), ("held", 7), ("held", 8))

    def test_rings(self):
        self.check(RING, (0, 1, 2, 3), (0, 2, 3, 1), GOES)
        self.check(RING, (0, 1, 2, 3), (0, 2, 1, 3), ("ring", 0))
        self.check(RING, (0, 1, 2, 3), (1, 2, 0, 3), GOES)
        self.check(RING, (0, 1, 2, 3), (2, 0, 1, 3), ("ring", 0))
        triangle = (3, ((0, 1), (0, 2), (1, 2)))
        self.check(triangle, (0, 1, 2), (2, 1, 0), GOES)

    def test_even_and_all(self):
        self.check(EVEN, (0, 1, 2, 3, 4), (0, 2, 1, 3, 4), ("sign", 0))
        self.check(EVEN, (0, 1, 2, 3, 4), (0, 2, 3, 1, 4), GOES)
        self.check(EVEN, (0, 1, 2, 3, 4), (0, 2, 1, 4, 3), GOES)
        for order in permutations((1, 2, 3)):
            self.check(ALL, (0, 3, 2, 1), (0,) + order, GOES)

    def test_the_least_piece_that_is_held_elsewhere(self):
        one = (0, 30, 20, 4, 6, 5)
        self.check(TWO_RINGS, one, (0, 20, 30, 6, 5, 4), GOES)
        self.check(TWO_RINGS, one, (0, 20, 30, 5, 6, 4), ("ring", 1))
        self.check(TWO_RINGS, one, (0, 4, 20, 30, 6, 5), ("held", 4), ("held", 30))
        self.check(TWO_RINGS, one, (0, 6, 5, 4, 30, 20), ("held", 5), ("held", 6), ("held", 20), ("held", 30))
        self.check(TWO_RINGS, (0, 4, 20, 30, 6, 5), one, ("held", 4), ("held", 30))

    def test_the_first_block_that_does_not_stand_so(self):
        web = reference.web_of(7, [(0, 1), (1, 2), (2, 3), (3, 0), (0, 4), (4, 5), (5, 6), (6, 0)])
        one = (0, 1, 2, 3, 4, 5, 6)
        self.check(web, one, walks.exchanged(one, 4, 5), ("ring", 1))
        self.check(web, one, walks.exchanged(one, 1, 3), ("ring", 0))
        self.check(web, one, walks.exchanged(walks.exchanged(one, 4, 5), 1, 3), ("ring", 0), ("ring", 1))
        self.check(web, one, walks.exchanged(walks.exchanged(one, 4, 5, 6), 1, 3, 2), GOES)

    def test_a_block_that_does_not_stand_so_where_others_hold_other_pieces(self):
        one = tuple(range(23))
        bars = [("held", 2), ("held", 11)]
        self.check(MIXED, one, walks.exchanged(one, 2, 11), *bars)
        bars.append(("class", 3))
        other = walks.exchanged(walks.exchanged(one, 2, 11), 4, 6)
        self.check(MIXED, one, other, *bars)
        bars.append(("ring", 6))
        other = walks.exchanged(other, 17, 19)
        self.check(MIXED, one, other, *bars)
        self.check(MIXED, strolled(MIXED, one, 3), strolled(MIXED, other, 4), *bars)
        self.check(MIXED, strolled(MIXED, other, 5), strolled(MIXED, one, 6), *bars)

    def test_many_blocks_of_each_kind(self):
        one = tuple(range(0, 230, 10))
        changes = {
            ("class", 3): (4, 6), ("sign", 4): (10, 11), ("ring", 6): (17, 18),
        }
        for bits in range(8):
            bars = [bar for k, bar in enumerate(changes) if bits >> k & 1]
            other = one
            for bar in bars:
                other = walks.exchanged(other, *changes[bar])
            # These change nothing that asks for anything: an "all" block, a ring of two pieces.
            other = walks.exchanged(walks.exchanged(other, 14, 15), 1, 20)
            other = walks.exchanged(walks.exchanged(other, 11, 12, 13), 17, 18, 19)
            for seed in range(3):
                self.check(MIXED, strolled(MIXED, one, seed), strolled(MIXED, other, seed + 3), *(bars or [GOES]))

    def test_great_webs_of_one_block(self):
        start = tuple(range(500, 539)) + (0,)
        for seed in range(4):
            one = strolled(GRID, start, seed)
            for web, swapped in ((GRID, ("sign", 0)), (GRID_AND_TIE, GOES), (FULL, GOES)):
                self.assertEqual(judge(web, one, strolled(web, start, seed + 4)), GOES)
                other = strolled(web, walks.exchanged(start, 3, 17), seed + 5)
                self.assertEqual(judge(web, one, other), swapped)
                self.assertIs(shows_judged(web, one, other, GOES), swapped == GOES)
                self.assertIs(shows_judged(web, one, other, ("sign", 0)), swapped != GOES)
                other = strolled(web, walks.exchanged(start, 3, 17, 30), seed + 5)
                self.assertEqual(judge(web, one, other), GOES)
                other = strolled(web, walks.exchanged(start, 3, 17, 30, 31), seed + 5)
                self.assertEqual(judge(web, one, other), swapped)

    def test_a_great_ring(self):
        start = tuple(range(40))
        for shift in (1, 2, 19, 38):
            turned = (0,) + start[1 + shift:] + start[1:1 + shift]
            self.assertEqual(judge(ROUND, start, turned), GOES)
            self.assertEqual(judge(ROUND, strolled(ROUND, start, shift), strolled(ROUND, turned, 9)), GOES)
            self.check(ROUND, start, walks.exchanged(turned, 7, 8), ("ring", 0))
            self.check(ROUND, walks.exchanged(start, 1, 20, 39), strolled(ROUND, turned, shift), ("ring", 0))
        self.check(ROUND, start, (0,) + start[:0:-1], ("ring", 0))

    def test_great_webs_of_many_blocks(self):
        start = tuple(range(40))
        for web in (PATH, STAR):
            self.check(web, start, strolled(web, start, 1), GOES)
            self.check(web, strolled(web, start, 2), strolled(web, walks.exchanged(start, 9, 12), 3),
                       ("held", 9), ("held", 12))
            self.assertEqual(judge(web, start, (0,) + start[:0:-1]), ("held", 1))
        other = walks.exchanged(start, 1, 3)
        self.check(CHAIN, strolled(CHAIN, start, 1), strolled(CHAIN, other, 2), ("ring", 0))
        other = walks.exchanged(walks.exchanged(start, 38, 39), 20, 21, 19)
        self.check(CHAIN, strolled(CHAIN, start, 3), strolled(CHAIN, other, 4), ("ring", 12))
        other = walks.exchanged(walks.exchanged(other, 5, 6), 30, 11)
        self.check(CHAIN, strolled(CHAIN, start, 5), strolled(CHAIN, other, 6),
                   ("held", 11), ("held", 30), ("ring", 1), ("ring", 12))

    def test_no_match(self):
        for one, other in [((0, 7, 8, 9), (0, 7, 8, 10)), ((0, 7, 8, 9), (1, 0, 2, 3)), ((9, 8, 7, 0), (8, 9, 6, 0))]:
            for call in (lambda: judge(TAILED, one, other), lambda: shows_judged(TAILED, one, other, GOES),
                         lambda: judge(TAILED, other, one), lambda: shows_judged(TAILED, one, other, None)):
                self.assertRaises(NoMatch, call)

    def test_the_earliest_error_first(self):
        for web in NO_WEBS:
            for one, other in [((0, 1), (0, 1)), ((0, 1), (2, 0)), (None, None)]:
                self.assertRaises(NoWeb, judge, web, one, other)
                self.assertRaises(NoWeb, shows_judged, web, one, other, GOES)
        for none in NO_LOOSE + LOOSE_ONLY:
            for one, other in [(none, none), (none, (0, 7, 8, 9)), ((0, 7, 8, 9), none), ((1, 2, 3, 0), none)]:
                self.assertRaises(NoStanding, judge, TAILED, one, other)
                self.assertRaises(NoStanding, shows_judged, TAILED, one, other, GOES)
                self.assertRaises(NoStanding, shows_judged, TAILED, one, other, None)

    def test_by_name(self):
        told = {"other": (0, 8, 9, 7), "one": (0, 7, 8, 9), "web": TAILED}
        self.assertEqual(judge(**told), ("held", 7))
        self.assertIs(shows_judged(thing=("held", 9), **told), True)
        self.assertIs(shows_judged(thing=("held", 8), **told), False)


class WalkTest(unittest.TestCase):

    def check(self, web, one, other, goes):
        """judge and shows_judged tell what the words tell, and that is what the walk says."""
        bars = walks.bars(web, one, other)
        self.assertEqual(bars == [], goes, (web, one, other))
        bars = bars or [GOES]
        self.assertEqual(judge(web, one, other), bars[0], (web, one, other))
        for word in WORDS:
            for number in range(-1, web[0] + 1):
                shown = shows_judged(web, one, other, (word, number))
                self.assertIs(shown, (word, number) in bars, (web, one, other, word, number))

    def test_all_pairs_of_small_webs(self):
        for web in [(2, ((0, 1),))] + list(reference.all_webs(3)) + [RING, ALL, TAILED]:
            for group in walks.walks(web, range(1, web[0])):
                for one in sorted(group)[::3]:
                    for other in walks.standings(range(1, web[0])):
                        self.check(web, one, other, other in group)

    def test_all_webs_of_four_bays(self):
        for web in reference.all_webs(4):
            groups = walks.walks(web, (1, 2, 3))
            for group in groups:
                for one in sorted(group)[::7]:
                    for other in walks.standings((1, 2, 3)):
                        self.assertEqual(judge(web, one, other) == GOES, other in group)

    def test_whether_it_goes(self):
        random = Random(5)
        webs = SMALL + SEVENS + OF_SEVEN_BAYS + reference.some_webs(40, 5, 6) + reference.some_webs(8, 7, 7)
        for web in webs:
            standings = walks.standings(range(1, web[0]))
            for one in random.sample(standings, 3 if web[0] > 4 else 2):
                group = walks.walked(web, one)
                for other in random.sample(standings, min(len(standings), 150)):
                    self.assertEqual(judge(web, one, other) == GOES, other in group, (web, one, other))
                for other in random.sample(sorted(group), min(len(group), 50)):
                    self.assertEqual(judge(web, one, other), GOES, (web, one, other))

    def test_bars(self):
        random = Random(6)
        webs = SMALL + SEVENS + OF_SEVEN_BAYS + reference.some_webs(30, 5, 6) + reference.some_webs(6, 7, 7)
        for web in webs:
            standings = walks.standings(range(1, web[0]))
            for one in random.sample(standings, 2):
                group = walks.walked(web, one)
                for other in random.sample(standings, min(len(standings), 4)):
                    self.check(web, one, other, other in group)
                other = random.choice(sorted(group))
                self.check(web, one, other, True)
                bays = some_held_bays(web, random)
                other = walks.led(web, walks.exchanged(walks.led(web, other, 0), *bays), one.index(0))
                self.check(web, one, other, other in group)

    def test_the_seven_with_bays_named_in_any_way(self):
        random = Random(7)
        for _ in range(25):
            web = reference.renamed(SEVEN, random.sample(range(7), 7))
            one = tuple(random.sample([0, 5, 9, 70, 500, 998, 999], 7))
            group = walks.walked(web, one)
            self.assertEqual(len(group), 7 * 120)
            for other in random.sample(sorted(group), 20):
                self.assertEqual(judge(web, one, other), GOES)
            for _ in range(40):
                other = tuple(random.sample(one, 7))
                self.assertEqual(judge(web, one, other), GOES if other in group else ("class", 0))


def some_held_bays(web, random):
    """Two or three bays of one block that are not its gate, if it has so many; else two bays but 0."""
    parts = list(zip(reference.blocks(web), reference.gates(web)))
    block, gate = random.choice(parts)
    bays = [bay for bay in block if bay != gate]
    if len(bays) < 2:
        bays = list(range(1, web[0]))
    return random.sample(bays, min(len(bays), random.choice((2, 3))))


class ShowsJudgedTest(unittest.TestCase):

    def none_shows(self, web, one, other, things):
        for thing in things:
            self.assertIs(shows_judged(web, one, other, thing), False, thing)

    def test_other_things_where_it_goes(self):
        one, other = (0, 1, 2, 3), (0, 2, 3, 1)
        self.assertIs(shows_judged(RING, one, other, GOES), True)
        self.none_shows(RING, one, other, ANYTHING + [
            ["goes", 0], ("goes",), ("goes", 0, 0), ("goes", False), ("goes", "0"), ("goes", None), ("goes", 1),
            ("goes", -1), ("goes", (0,)), (0, "goes"), ("Goes", 0), ("go", 0), ("", 0), (("goes",), 0), (("goes", 0),),
            [("goes", 0)], {"goes": 0}, "goes", b"goes", ("goes", deep(11)), ("goes", deep_list(11)), (None, 0),
            (b"goes", 0), ("ring", 0), ("held", 1), ("sign", 0), ("class", 0), ("held", 0), ("goes", 10 ** 60),
        ])

    def test_other_things_where_pieces_are_held_elsewhere(self):
        one, other = (0, 1, 2, 3), (0, 3, 2, 1)
        for piece in (1, 3):
            self.assertIs(shows_judged(TAILED, one, other, ("held", piece)), True)
        self.none_shows(TAILED, one, other, ANYTHING + [
            ["held", 1], ("held", True), ("held", False), ("held", 0), ("held", 2), ("held", 4), ("held", -1),
            ("held", "1"), ("held", [1]), ("held", (1,)), ("held", None), ("held", 1, 3), ("held", 1, 0), ("held",),
            (1, "held"), ("Held", 1), ("heldheld", 1), ("goes", 0), ("ring", 0), ("bridge", 1), ("ring", 1),
            ("held", deep(11)), ("held", deep_list(11)), (deep(11), deep(11)), (["held"], 1), (True, 1), (1, 1),
            ("held", 10 ** 60), ("held", -10 ** 60), ("h" * 1000, 1), tuple(range(20000)), ("held",) * 2,
        ])

    def test_other_things_where_a_block_does_not_stand_so(self):
        web = reference.web_of(7, [(0, 1), (1, 2), (2, 3), (3, 0), (0, 4), (4, 5), (5, 6), (6, 0)])
        one = (0, 1, 2, 3, 4, 5, 6)
        other = (0, 1, 2, 3, 5, 4, 6)
        self.assertIs(shows_judged(web, one, other, ("ring", 1)), True)
        self.none_shows(web, one, other, ANYTHING + [
            ["ring", 1], ("ring", True), ("ring", 0), ("ring", False), ("ring", 2), ("ring", -1), ("ring", "1"),
            ("ring", [1]), ("ring", 1, 1), ("goes", 0), ("sign", 1), ("class", 1), ("held", 1), ("held", 5),
            ("all", 1), ("bridge", 1), ("even", 1), ("seven", 1), ("Ring", 1), ("rings", 1), (1, "ring"),
            ("ring", (1,)), ("ring", None), ("ring", 10 ** 60), (("ring", 1),), (("ring", 1), 1), {("ring", 1): 1},
        ])
        other = (0, 2, 1, 3, 4, 5, 6)
        self.assertIs(shows_judged(web, one, other, ("ring", 0)), True)
        self.assertIs(shows_judged(web, one, other, ("ring", False)), False)

    def test_each_word_is_that_of_the_kind(self):
        for web, word in ((RING, "ring"), (EVEN, "sign"), (SEVEN, "class")):
            one = tuple(range(web[0]))
            other = walks.exchanged(one, 1, 2)
            for told in WORDS + ("even", "seven", "all", "bridge", "block"):
                self.assertIs(shows_judged(web, one, other, (told, 0)), told == word)

    def test_anything_at_all(self):
        one, other = (0, 1, 2, 3), (0, 3, 2, 1)
        self.none_shows(TAILED, one, other, [
            1.0, ("held", 1.0), ("held", 3.5), {1, 2}, ("held", {1}), object(), ("held", object()), (object(), 1),
            range(2), iter(()), deep(5000), deep_list(5000), ("held", deep(5000)), (deep(5000), 1), (int, 1),
        ])

    def test_things_stay(self):
        thing = ["held", [1, ("held", 1)]]
        shows_judged(TAILED, (0, 1, 2, 3), (0, 3, 2, 1), thing)
        shows_judged(TAILED, (0, 1, 2, 3), (0, 3, 2, 1), ("held", thing))
        self.assertEqual(thing, ["held", [1, ("held", 1)]])
