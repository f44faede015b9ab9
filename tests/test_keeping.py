"""Point [14], what holds over the whole program; and of point [1] what it says of lists."""

import unittest
from random import Random

from sparebay.blocks import blocks, gates, kinds, round_of
from sparebay.counts import classes, how_many, mends
from sparebay.errors import BayError
from sparebay.forms import normal_form
from sparebay.halls import Hall
from sparebay.judges import judge
from sparebay.standings import done
from sparebay.tours import turned
from sparebay.ways import fewest, levels, way
from sparebay.webs import first_path, neighbours
from sparebay.whys import why
from sparebay.wishes import meeting
from sparebay.yards import Yard, trial
from tests import reference, walks
from tests.samples import (BLOCKS, CHAIN, GREAT, GREAT_BLOCKS, GRID, MIXED, OF_SEVEN_BAYS, RING, SEVENS, SMALL,
                           put_together)
from tests.values import TAILED

GOES = ("goes", 0)


def webs_of_all_sizes(random):
    found = SMALL + SEVENS + OF_SEVEN_BAYS + GREAT + [MIXED]
    for _ in range(15):
        web, _ = put_together(random.choices(BLOCKS + GREAT_BLOCKS[:1], k=4), random)
        found.append(web)
    return found


def strolled(web, loose, random):
    return done(web, loose, walks.strolled(web, loose, random.randrange(80, 140), random.randrange(999)))


class KeepingTest(unittest.TestCase):

    def test_moves_keep_the_form_and_their_way_back_changes_nothing(self):
        random = Random(91)
        for web in webs_of_all_sizes(random):
            standing = tuple(random.sample(range(web[0]), web[0]))
            moves = walks.strolled(web, standing, 90, random.randrange(99))
            after = done(web, standing, moves)
            self.assertEqual(normal_form(web, after), normal_form(web, standing))
            self.assertEqual(judge(web, standing, after), GOES)
            self.assertIsNone(why(web, standing, after))
            back = moves[-2::-1] + [standing.index(0)]
            self.assertEqual(done(web, after, back), standing)
            self.assertEqual(turned(web, standing.index(0), moves + back), tuple(range(web[0])))

    def test_other_names(self):
        """All that is promised to be the same if bays and pieces are named anew."""
        random = Random(92)
        for web in webs_of_all_sizes(random):
            n = web[0]
            names = random.sample(range(n), n)
            called = [0] + random.sample(range(1, 1000), n - 1)
            renamed = reference.renamed(web, names)

            def anew(standing):
                after = [0] * n
                for bay in range(n):
                    after[names[bay]] = called[standing[bay]]
                return tuple(after)

            one = tuple(random.sample(range(n), n))
            for other in (strolled(web, one, random), tuple(random.sample(range(n), n)),
                          walks.exchanged(strolled(web, one, random), *random.sample(range(n), 2))):
                goes = judge(web, one, other) == GOES
                self.assertEqual(judge(renamed, anew(one), anew(other)) == GOES, goes)
                self.assertEqual(why(renamed, anew(one), anew(other)) is None, goes)
                if n <= 6:
                    found, again = fewest(web, one, other), fewest(renamed, anew(one), anew(other))
                    self.assertEqual(found and len(found), again and len(again))
            self.assertEqual(how_many(renamed, anew(one)), how_many(web, one))
            self.assertEqual(classes(renamed), classes(web))
            if n <= 6:
                self.assertEqual(levels(renamed, anew(one)), levels(web, one))

    def test_a_tie_more_takes_nothing_away(self):
        random = Random(93)
        for web in webs_of_all_sizes(random):
            n, ties = web
            gaps = [(a, b) for a in range(n) for b in range(a + 1, n) if (a, b) not in ties]
            one = tuple(random.sample(range(n), n))
            for tie in random.sample(gaps, min(len(gaps), 4)):
                more = reference.web_of(n, list(ties) + [tie])
                other = strolled(web, one, random)
                self.assertEqual(judge(more, one, other), GOES)
                self.assertIsNone(why(more, one, other))
                self.assertEqual(classes(web) % classes(more), 0)
                self.assertLessEqual(normal_form(more, one), normal_form(web, one))
                wish = tuple(piece if piece == 0 or random.random() < 0.5 else None for piece in other)
                self.assertIsNotNone(meeting(more, one, wish))

    def test_a_yard_behind_any_sequence_of_calls(self):
        random = Random(94)
        for web in (TAILED, RING, MIXED, GRID, CHAIN, SEVENS[0]):
            n = web[0]
            first = tuple(random.sample(range(n), n))
            yard = Yard(web, first)
            for _ in range(60):
                call = random.choice((
                    lambda: yard.move(random.randrange(-1, n + 1)), lambda: yard.lead(random.randrange(-1, n + 1)),
                    lambda: yard.shift(random.randrange(n + 1), random.randrange(n + 1)), yard.undo,
                    lambda: yard.asked(None), lambda: yard.moves().append(0),
                    lambda: trial(yard, ["undo", [("lead", 0), ("move", random.randrange(n))], ("lead", 1)]),
                    lambda: trial(yard, [[[[[[]]]]]]), lambda: yard.move(reference.near(web, yard.standing().index(0))[0])))
                try:
                    with_stretch(yard, call) if random.random() < 0.3 else call()
                except BayError:
                    pass
                standing = yard.standing()
                self.assertEqual(done(web, first, yard.moves()), standing)
                fresh = Yard(web, standing)
                self.assertEqual(fresh.standing(), standing)
                for other in (first, tuple(random.sample(range(n), n)), walks.exchanged(standing, 0, 1)):
                    self.assertEqual(yard.asked(other), fresh.asked(other))
                    self.assertEqual(yard.asked(other), judge(web, standing, other))


def with_stretch(yard, call):
    with yard:
        call()


class NewListsTest(unittest.TestCase):

    def test_all_lists_are_new(self):
        yard = Yard(TAILED, (0, 7, 8, 9))
        yard.lead(3)
        hall = Hall(TAILED, (0, 7, 8, 9))
        hall.keep((0, None, 7, None))
        for call in (lambda: neighbours(TAILED, 2), lambda: first_path(TAILED, 1, 3), lambda: blocks(TAILED),
                     lambda: gates(TAILED), lambda: kinds(TAILED), lambda: round_of(TAILED, 0),
                     lambda: way(TAILED, (0, 7, 8, 9), (0, 8, 7, 9)), lambda: fewest(TAILED, (0, 7, 8, 9), (0, 8, 7, 9)),
                     lambda: way(TAILED, (0, 7, 8, 9), (0, 7, 8, 9)), lambda: fewest(TAILED, (0, 7, 8, 9), (0, 7, 8, 9)),
                     lambda: levels(TAILED, (0, 7, 8, 9)), lambda: mends(TAILED), yard.moves, hall.wishes, hall.met,
                     lambda: trial(yard, [["undo"], [], "undo"])):
            first, second = call(), call()
            self.assertIsInstance(first, list)
            self.assertIsNot(first, second)
            first.append(77)
            self.assertNotIn(77, second)
            self.assertEqual(call(), second)

    def test_what_is_returned_holds_no_argument_that_may_change(self):
        moves = [1, 2]
        yard = Yard(TAILED, (0, 7, 8, 9))
        things = [[("move", 1)], ["undo"][:0]]
        told = trial(yard, things)
        told[1].append(5)
        told.append(5)
        self.assertEqual(things, [[("move", 1)], []])
        self.assertEqual(done(TAILED, (0, 7, 8, 9), moves), (7, 8, 0, 9))
        self.assertEqual(moves, [1, 2])
