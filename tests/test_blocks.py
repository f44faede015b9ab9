"""Points [3] and [4]: blocks, gates, kinds, rounds; and what point [1] says of these."""

import unittest
from itertools import permutations

from sparebay.blocks import blocks, gates, kinds, round_of
from sparebay.errors import NoBlock, NoWeb
from tests import reference
from tests.reference import renamed, web_of
from tests.samples import CHAIN, FULL, GRID, GRID_AND_TIE, PATH, ROUND, SEVEN
from tests.values import NO_NUMBERS, NO_WEBS, TAILED

FAN = web_of(39, [(0, k) for k in range(1, 39)] + [(k, k + 1) for k in range(1, 39, 2)])


def three_ways(first, second, third):
    """A web of bays 0 and 1 with three ways between them, so many bays on each."""
    ties = []
    n = 2
    for many in (first, second, third):
        way = [0] + list(range(n, n + many)) + [1]
        ties += [(way[k], way[k + 1]) for k in range(many + 1)]
        n += many
    return web_of(n, ties)


class BlocksTest(unittest.TestCase):

    def check(self, web, found_blocks, found_gates):
        self.assertEqual(blocks(web), found_blocks)
        self.assertEqual(gates(web), found_gates)

    def test_trees(self):
        self.check((2, ((0, 1),)), [(0, 1)], [0])
        self.check((3, ((0, 2), (1, 2))), [(0, 2), (1, 2)], [0, 2])
        self.check((4, ((0, 3), (1, 3), (2, 3))), [(0, 3), (1, 3), (2, 3)], [0, 3, 3])
        self.check((4, ((0, 3), (1, 2), (2, 3))), [(0, 3), (1, 2), (2, 3)], [0, 2, 3])
        self.check((4, ((0, 1), (0, 2), (0, 3))), [(0, 1), (0, 2), (0, 3)], [0, 0, 0])

    def test_rings(self):
        self.check((3, ((0, 1), (0, 2), (1, 2))), [(0, 1, 2)], [0])
        self.check((4, ((0, 1), (0, 3), (1, 2), (2, 3))), [(0, 1, 2, 3)], [0])
        self.check(TAILED, [(0, 1, 2), (2, 3)], [0, 2])

    def test_rings_that_share_a_bay(self):
        web = web_of(5, [(0, 1), (1, 2), (0, 2), (2, 3), (3, 4), (2, 4)])
        self.check(web, [(0, 1, 2), (2, 3, 4)], [0, 2])
        web = web_of(7, [(0, 1), (0, 2), (1, 2), (0, 3), (0, 4), (3, 4), (0, 5), (0, 6), (5, 6)])
        self.check(web, [(0, 1, 2), (0, 3, 4), (0, 5, 6)], [0, 0, 0])
        web = web_of(7, [(6, 1), (6, 2), (1, 2), (6, 3), (6, 4), (3, 4), (6, 5), (0, 6), (5, 0)])
        self.check(web, [(0, 5, 6), (1, 2, 6), (3, 4, 6)], [0, 6, 6])

    def test_rings_that_share_a_tie(self):
        web = web_of(6, [(0, 1), (1, 2), (2, 3), (0, 3), (2, 4), (4, 5), (3, 5)])
        self.check(web, [(0, 1, 2, 3, 4, 5)], [0])

    def test_rings_on_a_way(self):
        # bay 0 - bridge - ring 5 4 3 - bridge - ring 2 1 6
        web = web_of(7, [(0, 5), (5, 4), (4, 3), (3, 5), (3, 2), (2, 1), (1, 6), (6, 2)])
        self.check(web, [(0, 5), (1, 2, 6), (2, 3), (3, 4, 5)], [0, 2, 3, 5])

    def test_bay_0_within_a_block_is_its_gate(self):
        web = web_of(6, [(5, 0), (0, 4), (4, 5), (4, 3), (5, 1), (1, 2), (2, 5)])
        self.check(web, [(0, 4, 5), (1, 2, 5), (3, 4)], [0, 5, 4])

    def test_bay_0_in_several_blocks(self):
        web = web_of(6, [(0, 1), (0, 2), (0, 3), (2, 3), (0, 4), (0, 5), (4, 5)])
        self.check(web, [(0, 1), (0, 2, 3), (0, 4, 5)], [0, 0, 0])

    def test_a_gate_that_is_not_the_least_bay(self):
        web = web_of(5, [(0, 4), (4, 1), (1, 2), (2, 3), (3, 4)])
        self.check(web, [(0, 4), (1, 2, 3, 4)], [0, 4])

    def test_many_bays(self):
        self.check(PATH, [(k, k + 1) for k in range(39)], list(range(39)))
        self.check(ROUND, [tuple(range(40))], [0])
        self.check(FULL, [tuple(range(40))], [0])
        self.check(FAN, [(0, k, k + 1) for k in range(1, 38, 2)], [0] * 19)
        self.check(CHAIN, [tuple(range(k, k + 4)) for k in range(0, 39, 3)], list(range(0, 39, 3)))
        back = renamed(CHAIN, [0] + list(range(39, 0, -1)))
        self.check(back, [(0, 37, 38, 39)] + [tuple(range(k, k + 4)) for k in range(1, 36, 3)],
                   [0] + list(range(4, 39, 3)))

    def test_against_the_words(self):
        webs = list(reference.all_webs(3)) + list(reference.all_webs(4))
        webs += list(reference.all_webs(5))[::2] + reference.some_webs(400, 5, 10)
        for web in webs:
            self.check(web, reference.blocks(web), reference.gates(web))

    def test_each_tie_belongs_to_one_block_and_each_bay_is_held_by_one(self):
        for web in reference.some_webs(60, 20, 40):
            parts = list(zip(blocks(web), gates(web)))
            for a, b in web[1]:
                self.assertEqual(sum(a in block and b in block for block, _ in parts), 1)
            for bay in range(web[0]):
                held = sum(bay in block and bay != gate for block, gate in parts)
                self.assertEqual(held, 1 if bay else 0)

    def test_lists_are_new(self):
        for call in (blocks, gates, kinds):
            kept = list(call(TAILED))
            call(TAILED).append(9)
            self.assertEqual(call(TAILED), kept)

    def test_by_name(self):
        self.assertEqual(blocks(web=TAILED), [(0, 1, 2), (2, 3)])
        self.assertEqual(gates(web=TAILED), [0, 2])
        self.assertEqual(kinds(web=TAILED), ["ring", "bridge"])

    def test_no_web(self):
        for thing in NO_WEBS:
            for call in (blocks, gates, kinds):
                self.assertRaises(NoWeb, call, thing)


class KindsTest(unittest.TestCase):

    def test_bridges_and_rings(self):
        self.assertEqual(kinds((2, ((0, 1),))), ["bridge"])
        self.assertEqual(kinds((3, ((0, 1), (0, 2)))), ["bridge", "bridge"])
        self.assertEqual(kinds((3, ((0, 1), (0, 2), (1, 2)))), ["ring"])
        self.assertEqual(kinds((4, ((0, 1), (0, 3), (1, 2), (2, 3)))), ["ring"])
        self.assertEqual(kinds(ROUND), ["ring"])
        self.assertEqual(kinds(FAN), ["ring"] * 19)
        self.assertEqual(kinds(PATH), ["bridge"] * 39)
        self.assertEqual(kinds(web_of(7, [(k, (k + 1) % 7) for k in range(7)])), ["ring"])

    def test_even_and_all(self):
        self.assertEqual(kinds((4, ((0, 1), (0, 2), (0, 3), (1, 2), (2, 3)))), ["all"])
        self.assertEqual(kinds((5, ((0, 2), (0, 3), (0, 4), (1, 2), (1, 3), (1, 4)))), ["even"])
        self.assertEqual(kinds(web_of(6, [(0, 1), (1, 2), (2, 3), (3, 4), (4, 5), (0, 5), (0, 3)])), ["even"])
        self.assertEqual(kinds(web_of(6, [(0, 1), (1, 2), (2, 3), (3, 4), (4, 5), (0, 5), (0, 2)])), ["all"])
        self.assertEqual(kinds(FULL), ["all"])
        self.assertEqual(kinds(GRID), ["even"])
        self.assertEqual(kinds(GRID_AND_TIE), ["all"])

    def test_the_seven_with_bays_named_in_any_way(self):
        for names in permutations(range(7)):
            if names[0] < names[2]:
                self.assertEqual(kinds(renamed(SEVEN, names)), ["seven"])

    def test_eight_ties_over_seven_bays_that_are_no_seven(self):
        self.assertEqual(kinds(three_ways(1, 2, 2)), ["seven"])
        for names in ([0, 1, 2, 3, 4, 5, 6], [6, 3, 1, 0, 5, 2, 4], [2, 4, 6, 5, 0, 3, 1]):
            self.assertEqual(kinds(renamed(three_ways(0, 1, 4), names)), ["all"])
            self.assertEqual(kinds(renamed(three_ways(0, 2, 3), names)), ["all"])
            self.assertEqual(kinds(renamed(three_ways(1, 1, 3), names)), ["even"])

    def test_eight_ties_that_are_no_block_of_seven(self):
        web = web_of(7, [(0, 1), (1, 2), (2, 3), (0, 3), (0, 4), (4, 5), (5, 6), (0, 6)])
        self.assertEqual(kinds(web), ["ring", "ring"])
        web = web_of(7, [(0, 1), (1, 2), (0, 3), (3, 2), (0, 4), (4, 5), (5, 2), (5, 6)])
        self.assertEqual(kinds(web), ["all", "bridge"])

    def test_other_ways_of_one_two_and_two(self):
        self.assertEqual(kinds(three_ways(1, 2, 3)), ["all"])
        self.assertEqual(kinds(three_ways(1, 1, 2)), ["all"])
        self.assertEqual(kinds(three_ways(2, 2, 2)), ["even"])

    def test_ways_of_one_two_and_two_to_three_bays(self):
        web = web_of(9, [(0, 4), (4, 1), (0, 5), (5, 6), (6, 2), (0, 7), (7, 8), (8, 3), (1, 2), (2, 3), (1, 3)])
        self.assertEqual(kinds(web), ["all"])

    def test_a_tie_more_makes_the_seven_an_all(self):
        for a in range(7):
            for b in range(a + 1, 7):
                if (a, b) not in SEVEN[1]:
                    self.assertEqual(kinds(web_of(7, SEVEN[1] + ((a, b),))), ["all"])

    def test_each_kind_within_a_greater_web(self):
        ties = [(30 + a, 30 + b) for a, b in SEVEN[1]] + [(0, 1), (1, 33)]
        ties += [(36, 2), (2, 3), (3, 4), (4, 36)]
        ties += [(4, 5), (4, 6), (4, 7), (8, 5), (8, 6), (8, 7)]
        ties += [(0, 9), (0, 10), (9, 10), (0, 11), (9, 11)]
        names = list(range(12)) + [None] * 18 + list(range(12, 19))
        web = web_of(19, [(names[a], names[b]) for a, b in ties])
        self.assertEqual(
            list(zip(blocks(web), gates(web), kinds(web))),
            [((0, 1), 0, "bridge"), ((0, 9, 10, 11), 0, "all"), ((1, 15), 1, "bridge"),
             ((2, 3, 4, 18), 18, "ring"), ((4, 5, 6, 7, 8), 4, "even"),
             ((12, 13, 14, 15, 16, 17, 18), 15, "seven")])

    def test_against_the_words(self):
        webs = list(reference.all_webs(4)) + list(reference.all_webs(5))[::3]
        webs += reference.some_webs(300, 6, 10)
        for first in range(4):
            for second in range(max(first, 1), 4):
                webs += [three_ways(first, second, third) for third in range(second, 4)]
        for web in webs:
            self.assertEqual(kinds(web), reference.kinds(web), web)


class RoundOfTest(unittest.TestCase):

    def test_rounds(self):
        self.assertEqual(round_of((3, ((0, 1), (0, 2), (1, 2))), 0), [0, 1, 2])
        self.assertEqual(round_of((4, ((0, 1), (0, 3), (1, 2), (2, 3))), 0), [0, 1, 2, 3])
        self.assertEqual(round_of((4, ((0, 2), (0, 3), (1, 2), (1, 3))), 0), [0, 2, 1, 3])
        self.assertEqual(round_of((5, ((0, 3), (0, 4), (1, 2), (1, 4), (2, 3))), 0), [0, 3, 2, 1, 4])

    def test_the_gate_at_any_place(self):
        rings = [[1, 2, 3, 4], [2, 1, 4, 3], [4, 1, 3, 2], [1, 3, 2, 4]]
        for ring in rings:
            for gate in range(1, 5):
                ties = [(ring[k - 1], ring[k]) for k in range(4)] + [(0, gate)]
                web = web_of(5, ties)
                at = ring.index(gate)
                onward = ring[at:] + ring[:at]
                back = [gate] + onward[:0:-1]
                self.assertEqual(blocks(web)[1], (1, 2, 3, 4))
                self.assertEqual(round_of(web, 1), min(onward, back))

    def test_a_tie_at_the_gate_that_is_none_of_the_ring(self):
        # Bay 0 is the least neighbour of the gate, but it is not in the ring.
        web = web_of(6, [(0, 3), (3, 5), (5, 4), (4, 2), (2, 3), (1, 4)])
        self.assertEqual(blocks(web), [(0, 3), (1, 4), (2, 3, 4, 5)])
        self.assertEqual(round_of(web, 2), [3, 2, 4, 5])

    def test_forty_bays(self):
        self.assertEqual(round_of(ROUND, 0), list(range(40)))
        names = [k * 7 % 40 for k in range(40)]
        self.assertEqual(round_of(renamed(ROUND, names), 0), names)
        self.assertEqual(round_of(CHAIN, 12), [36, 37, 38, 39])
        self.assertEqual(round_of(FAN, 18), [0, 37, 38])

    def test_against_the_words(self):
        many = 0
        for web in list(reference.all_webs(4)) + reference.some_webs(250, 5, 8):
            for k, kind in enumerate(kinds(web)):
                if kind == "ring":
                    many += 1
                    self.assertEqual(round_of(web, k), reference.round_of(web, k), (web, k))
                else:
                    self.assertRaises(NoBlock, round_of, web, k)
        self.assertGreater(many, 100)

    def test_by_name_and_new(self):
        round_of(web=TAILED, k=0).append(9)
        self.assertEqual(round_of(k=0, web=TAILED), [0, 1, 2])

    def test_no_number_of_a_block(self):
        for thing in NO_NUMBERS + [2, 3, 40]:
            self.assertRaises(NoBlock, round_of, TAILED, thing)
        two = web_of(5, [(0, 1), (1, 2), (0, 2), (2, 3), (3, 4), (2, 4)])
        self.assertEqual(round_of(two, 1), [2, 3, 4])
        for thing in NO_NUMBERS + [2, 3, 40]:
            self.assertRaises(NoBlock, round_of, two, thing)

    def test_a_block_that_is_no_ring(self):
        self.assertRaises(NoBlock, round_of, TAILED, 1)
        self.assertRaises(NoBlock, round_of, SEVEN, 0)
        self.assertRaises(NoBlock, round_of, FULL, 0)
        self.assertRaises(NoBlock, round_of, three_ways(1, 1, 1), 0)

    def test_no_web_comes_first(self):
        for thing in NO_WEBS:
            for k in (0, -1, None):
                self.assertRaises(NoWeb, round_of, thing, k)
