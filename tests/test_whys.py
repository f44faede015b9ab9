"""Point [15]: papers; and what points [1] and [14] say of them."""

import copy
import unittest
from collections import Counter
from random import Random

from sparebay.errors import NoMatch, NoStanding, NoWeb
from sparebay.judges import judge
from sparebay.standings import done
from sparebay.whys import shows_why, why
from tests import papers, reference, walks
from tests.samples import (ALL, BLOCKS, BRIDGE, CHAIN, EVEN, FULL, GREAT_BLOCKS, GRID, GRID_AND_TIE, MIXED,
                           OF_SEVEN_BAYS, PATH, RING, ROUND, SEVEN, SEVENS, SMALL, STAR, put_together)
from tests.values import ANYTHING, LOOSE_ONLY, NO_LOOSE, NO_WEBS, TAILED, deep, deep_list

GOES = ("goes", 0)


def any_standing(web, random):
    return tuple(random.sample([0] + random.sample(range(1, 1000), web[0] - 1), web[0]))


def strolled(web, standing, random):
    return done(web, standing, walks.strolled(web, standing, random.randrange(60, 150), random.randrange(999)))


class WhyTest(unittest.TestCase):

    def check(self, web, one, other, goes):
        """why tells a paper, by the words too, exactly if one does not lead to other."""
        paper = why(web, one, other)
        if goes:
            self.assertIsNone(paper, (web, one, other))
            return None
        for first, second in ((one, other), (other, one)):
            self.assertIs(shows_why(web, first, second, paper), True, (web, one, other, paper))
            self.assertTrue(papers.is_paper(web, first, second, paper))
        return paper[0]

    def test_each_kind(self):
        self.assertEqual(why(RING, (0, 1, 2, 3), (0, 2, 1, 3))[0], "ring")
        self.assertEqual(why(EVEN, (0, 1, 2, 3, 4), (0, 2, 1, 3, 4))[0], "sign")
        self.assertEqual(why(TAILED, (0, 7, 8, 9), (0, 9, 8, 7)), ("held", 7, 2))
        self.assertEqual(why(SEVEN, (0, 1, 2, 3, 4, 5, 6), (0, 2, 1, 3, 4, 5, 6))[0], "class")
        self.assertIsNone(why(ALL, (0, 1, 2, 3), (0, 2, 1, 3)))
        self.assertIsNone(why(BRIDGE, (0, 1), (1, 0)))

    def test_all_pairs_of_small_webs(self):
        for web in [BRIDGE] + list(reference.all_webs(3)) + [RING, ALL, TAILED]:
            for group in walks.walks(web, range(1, web[0])):
                for one in sorted(group)[::3]:
                    for other in walks.standings(range(1, web[0])):
                        self.check(web, one, other, other in group)

    def test_all_webs_of_four_bays(self):
        for web in reference.all_webs(4):
            for group in walks.walks(web, (1, 2, 3)):
                one = sorted(group)[-1]
                for other in walks.standings((1, 2, 3)):
                    self.check(web, one, other, other in group)

    def test_webs_of_five_to_seven_bays(self):
        random = Random(51)
        seen = Counter()
        webs = SMALL + SEVENS + OF_SEVEN_BAYS + BLOCKS + reference.some_webs(40, 5, 7)
        for web in webs:
            one = any_standing(web, random)
            group = walks.walked(web, one)
            for _ in range(12):
                other = tuple(random.sample(one, web[0]))
                seen[self.check(web, one, other, other in group)] += 1
                other = walks.exchanged(random.choice(sorted(group)), *random.sample(range(web[0]), 2))
                seen[self.check(web, one, other, other in group)] += 1
        self.assertEqual(set(seen), {None, "held", "ring", "sign", "class"})

    def test_the_seven_with_bays_named_in_any_way(self):
        random = Random(52)
        for _ in range(25):
            web = reference.renamed(SEVEN, random.sample(range(7), 7))
            one = any_standing(web, random)
            group = walks.walked(web, one)
            for other in random.sample(sorted(group), 5):
                self.check(web, one, other, True)
            for _ in range(15):
                other = tuple(random.sample(one, 7))
                self.check(web, one, other, other in group)

    def test_each_class_of_the_seven(self):
        for web in SEVENS:
            groups = walks.walks(web, range(1, 7))
            self.assertEqual(len(groups), 6)
            firsts = [min(group) for group in groups]
            for one in firsts:
                for other in firsts:
                    self.check(web, one, other, one == other)

    def test_great_webs(self):
        random = Random(53)
        webs = [PATH, STAR, ROUND, FULL, GRID, GRID_AND_TIE, CHAIN, MIXED]
        for _ in range(40):
            web, _ = put_together(random.choices(BLOCKS + GREAT_BLOCKS, k=random.randrange(2, 6)), random)
            if web[0] <= 40:
                webs.append(web)
        seen = Counter()
        for web in webs:
            one = any_standing(web, random)
            for _ in range(4):
                other = strolled(web, one, random)
                self.check(web, one, other, True)
                block = random.choice(web[1])
                bays = [bay for tie in web[1] if set(tie) & set(block) for bay in tie if other[bay]]
                bays = random.sample(sorted(set(bays)), 2)
                other = walks.exchanged(other, *bays)
                seen[self.check(web, one, other, judge(web, one, other) == GOES)] += 1
        self.assertEqual(set(seen), {None, "held", "ring", "sign", "class"})

    def test_the_errors_in_their_order(self):
        for web in NO_WEBS:
            self.assertRaises(NoWeb, why, web, (0, 1), (1, 0))
            self.assertRaises(NoWeb, shows_why, web, None, None, None)
        for none in NO_LOOSE + LOOSE_ONLY:
            for one, other in [(none, (0, 7, 8, 9)), ((0, 7, 8, 9), none), (none, none), ((1, 2, 3, 0), none)]:
                self.assertRaises(NoStanding, why, TAILED, one, other)
                self.assertRaises(NoStanding, shows_why, TAILED, one, other, ("held", 7, 2))
        self.assertRaises(NoMatch, why, TAILED, (0, 7, 8, 9), (0, 7, 8, 10))
        self.assertRaises(NoMatch, shows_why, TAILED, (0, 7, 8, 9), (0, 7, 8, 10), None)

    def test_by_name(self):
        told = {"other": (0, 9, 8, 7), "one": (0, 7, 8, 9), "web": TAILED}
        self.assertEqual(why(**told), ("held", 7, 2))
        self.assertIs(shows_why(thing=("held", 9, 2), **told), True)
        self.assertIs(shows_why(thing=("held", 8, 2), **told), False)


class ShowsWhyTest(unittest.TestCase):

    def check(self, web, one, other, things, seen=None):
        for thing in things:
            wanted = papers.is_paper(web, one, other, thing)
            self.assertIs(shows_why(web, one, other, thing), wanted, (web, one, other, thing))
            if seen is not None and wanted:
                seen[thing[0]] += 1

    def test_all_things_of_small_webs(self):
        """There is a paper exactly if one does not lead to the other."""
        for web in [BRIDGE] + list(reference.all_webs(3)) + [RING, ALL, TAILED] + list(reference.all_webs(4))[::7]:
            things = papers.held_ones(web) + list(papers.ring_ones(web)) + list(papers.sign_ones(web))
            one = tuple(range(1, web[0])) + (0,)
            group = walks.walked(web, one)
            for other in walks.standings(range(1, web[0])):
                seen = Counter()
                self.check(web, one, other, things, seen)
                self.assertEqual(bool(seen), other not in group, (web, one, other))

    def test_all_things_of_webs_of_five_and_six_bays(self):
        random = Random(54)
        seen = Counter()
        for web in SMALL[5:] + reference.some_webs(6, 5, 6):
            things = papers.held_ones(web) + list(papers.ring_ones(web))
            signs = list(papers.sign_ones(web))
            one = tuple(random.sample(range(web[0]), web[0]))
            group = walks.walked(web, one)
            for _ in range(2):
                for other in (tuple(random.sample(one, web[0])),
                              walks.exchanged(random.choice(sorted(group)), *random.sample(range(web[0]), 2))):
                    before = sum(seen.values())
                    self.check(web, one, other, things + signs[::1 if web[0] < 6 else 2], seen)
                    if other in group:
                        self.assertEqual(sum(seen.values()), before)
        self.assertEqual(set(seen), {"held", "ring", "sign"})

    def test_all_namings_of_sevens(self):
        random = Random(55)
        seen = Counter()
        for web in SEVENS + [reference.renamed(SEVEN, random.sample(range(7), 7))]:
            # The forks exchanged, the two ways of two bays exchanged.
            things = list(papers.class_ones(web))
            self.assertEqual(len(things), 4)
            one = tuple(random.sample(range(7), 7))
            group = walks.walked(web, one)
            for _ in range(12):
                other = tuple(random.sample(one, 7))
                for thing in things:
                    self.assertIs(shows_why(web, one, other, thing), other not in group)
                self.check(web, one, other, things, seen)
            for other in random.sample(sorted(group), 5):
                self.check(web, one, other, things)
                self.assertIs(shows_why(web, one, other, things[0]), False)
        # What is no block by itself is no seven, whatever its bays are tied to.
        more = reference.web_of(8, list(SEVEN[1]) + [(1, 7), (4, 7)])
        for thing in papers.class_ones(SEVEN):
            self.check(more, tuple(range(8)), (0, 2, 1, 3, 4, 5, 6, 7), [thing])
            self.assertIs(shows_why(more, tuple(range(8)), (0, 2, 1, 3, 4, 5, 6, 7), thing), False)
        self.assertGreater(seen["class"], 100)

    def test_other_pieces_in_a_seven(self):
        for names in (range(8), (7, 2, 5, 0, 1, 6, 4, 3)):
            web = reference.renamed((8, tuple(sorted(SEVEN[1] + ((0, 7),)))), list(names))
            one = tuple(range(8))
            for a in range(8):
                for b in range(a):
                    other = walks.exchanged(one, a, b)
                    self.check(web, one, other, papers.class_ones(web))
                    self.check(web, one, walks.exchanged(other, 1, 2), papers.class_ones(web))

    def test_a_seven_without_one_of_its_ties(self):
        one, other = tuple(range(7)), (0, 2, 1, 3, 4, 5, 6)
        for web in SEVENS:
            for tie in web[1]:
                rest = (7, tuple(each for each in web[1] if each != tie))
                for thing in papers.class_ones(web):
                    self.assertIs(shows_why(web, one, other, thing), True)
                    self.assertFalse(papers.is_paper(rest, one, other, thing))
                    self.assertIs(shows_why(rest, one, other, thing), False)

    def test_rows_of_a_path_are_no_rings(self):
        path = (5, ((0, 1), (1, 2), (2, 3), (3, 4)))
        one, other = (0, 1, 2, 3, 4), (0, 2, 1, 3, 4)
        for bays in [(0, 1, 2, 3, 4), (0, 1, 2, 3), (4, 3, 2, 1, 0), (1, 2, 3, 4)]:
            self.assertIs(shows_why(path, one, other, ("ring", bays)), False)
        self.check(path, one, other, papers.ring_ones(path))

    def test_namings_by_which_a_tie_is_missing(self):
        random = Random(56)
        one, other = tuple(range(7)), (0, 2, 1, 3, 4, 5, 6)
        things = [("class", *random.sample(range(7), 7)) for _ in range(2000)]
        for web in SEVENS + [BLOCKS[-2]]:
            self.check(web, one, other, things)

    def test_rings_begun_elsewhere_and_sides_exchanged(self):
        one, other = (0, 1, 2, 3), (0, 2, 1, 3)
        for k in range(4):
            bays = (0, 1, 2, 3)[k:] + (0, 1, 2, 3)[:k]
            self.assertIs(shows_why(RING, one, other, ("ring", bays)), True)
            self.assertIs(shows_why(RING, one, other, ("ring", bays[::-1])), True)
        for thing in [("sign", (0, 2), (1, 3)), ("sign", (1, 3), (0, 2))]:
            self.assertIs(shows_why(RING, one, other, thing), True)
        for thing in [("sign", (2, 0), (1, 3)), ("sign", (0, 1), (2, 3)), ("sign", (0,), (1, 3)), ("sign", (), ()),
                      ("sign", (), (0, 2)), ("sign", (0, 2), ()), ("sign", (0, 0, 2), (1, 3)), ("sign", (0, 2), (0, 1, 3))]:
            self.assertIs(shows_why(RING, one, other, thing), False)
        self.assertIs(shows_why(EVEN, (0, 1, 2, 3, 4), (0, 2, 1, 3, 4), ("sign", (2, 3, 4), (0, 1))), True)

    def test_a_sign_of_several_blocks(self):
        # The words ask for no block: here one of two rings, or both together.
        web = reference.web_of(7, [(0, 1), (1, 2), (2, 3), (3, 0), (0, 4), (4, 5), (5, 6), (6, 0)])
        one = (0, 1, 2, 3, 4, 5, 6)
        both = ("sign", (0, 2, 5), (1, 3, 4, 6))
        for other in (walks.exchanged(one, 1, 3), walks.exchanged(one, 4, 6), walks.exchanged(one, 1, 4),
                      walks.exchanged(walks.exchanged(one, 1, 3), 4, 6), walks.exchanged(one, 1, 2, 3, 4)):
            self.check(web, one, other, [both, ("sign", (0, 2), (1, 3)), ("sign", (0, 5), (4, 6))])
        self.assertIs(shows_why(web, one, walks.exchanged(one, 1, 4), both), True)
        self.assertIs(shows_why(web, one, walks.exchanged(walks.exchanged(one, 1, 3), 4, 6), both), False)

    def test_altered_papers(self):
        random = Random(57)
        seen = Counter()
        webs = [RING, EVEN, ALL, TAILED, MIXED, CHAIN] + SEVENS + SMALL[12:] + BLOCKS[3:]
        webs += [put_together(random.choices(BLOCKS, k=3), random)[0] for _ in range(8)]
        for web in webs:
            one = tuple(random.sample(range(web[0]), web[0]))
            for _ in range(4):
                other = walks.exchanged(strolled(web, one, random), *random.sample(range(web[0]), 2))
                paper = why(web, one, other)
                if paper is not None:
                    seen[paper[0]] += 1
                    self.check(web, one, other, papers.altered(paper, random))
                    third = walks.exchanged(strolled(web, other, random), *random.sample(range(web[0]), 3))
                    self.check(web, one, third, [paper])
        self.assertEqual(set(seen), {"held", "ring", "sign", "class"})

    def test_held_by_the_words(self):
        one, other = (0, 7, 8, 9), (0, 9, 8, 7)
        for thing in [("held", 7, 2), ("held", 9, 2)]:
            self.assertIs(shows_why(TAILED, one, other, thing), True)
        for thing in [("held", 8, 2), ("held", 7, 0), ("held", 7, 1), ("held", 7, 3), ("held", 0, 2), ("held", 10, 2),
                      ("held", 7, True), ("held", 7, 4), ("held", 7, -1), ("held", 7), ("held", 7, 2, 2), ["held", 7, 2],
                      ("held", "7", 2), ("held", [7], 2), ("held", 7, [2]), ("held", 7, None), ("ring", 7, 2),
                      ("Held", 7, 2), (("held", 7, 2),), ("held", (7,), 2)]:
            self.assertIs(shows_why(TAILED, one, other, thing), False, thing)
        self.assertIs(shows_why(TAILED, (0, 1, 2, 3), (0, 3, 2, 1), ("held", 1, 2)), True)
        self.assertIs(shows_why(TAILED, (0, 1, 2, 3), (0, 3, 2, 1), ("held", True, 2)), False)

    def test_nothing_shows_where_it_goes(self):
        random = Random(58)
        for web in SMALL[4:14]:
            one = tuple(random.sample(range(web[0]), web[0]))
            other = strolled(web, one, random)
            for thing in papers.held_ones(web) + list(papers.ring_ones(web)) + list(papers.sign_ones(web))[::3]:
                self.assertIs(shows_why(web, one, other, thing), False)

    def test_anything_at_all(self):
        one, other = (0, 1, 2, 3), (0, 3, 2, 1)
        parts = ANYTHING + [1.0, {1, 2}, object(), range(2), int, deep(5000), deep_list(5000), deep(11), tuple(range(20000))]
        for web in (TAILED, RING):
            for part in parts:
                for thing in [part, (part,), (part, part), ("held", part, part), ("held", 1, part), ("held", part, 2),
                              ("ring", part), ("ring", (part,)), ("ring", (0, 1, part)), ("ring", (0, part, 2, 3)),
                              ("sign", part, part), ("sign", (0, 2), part), ("sign", part, (1, 3)), (part, (0, 2), (1, 3)),
                              ("sign", (0, part), (1, 3)), ("sign", (0, 2), (part, 3)), ("class",) + (part,) * 7,
                              ("class", 0, 1, 2, 3, 4, 5, part), ("class", part)]:
                    self.assertIs(shows_why(web, one, other, thing), papers.is_paper(web, one, other, thing), thing)

    def test_things_stay(self):
        things = [["held", 7, 2], ("ring", [0, 1, 2]), ("sign", [0, 2], [1, 3]), ("class", [[0]], {}, 2, 3, 4, 5, 6)]
        kept = copy.deepcopy(things)
        for thing in things:
            self.assertIs(shows_why(TAILED, (0, 7, 8, 9), (0, 9, 8, 7), thing), False)
        self.assertEqual(things, kept)
