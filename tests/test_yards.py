"""Point [13]: yards and trials; and what points [1] and [14] say of them."""

import copy
import unittest
from random import Random

from sparebay.errors import (BadMove, BayError, NoBay, NoDeed, NoMatch, NoPiece, NoStanding, NoThings, NoUndo, NoWay,
                             NoWeb, NoYard, TooGreat)
from sparebay.judges import judge
from sparebay.standings import done, led
from sparebay.webs import first_path
from sparebay.yards import Yard, trial
from tests import reference, walks
from tests.samples import (BLOCKS, CHAIN, FULL, GREAT_BLOCKS, GRID, MIXED, PATH, RING, ROUND, SEVENS, SMALL, STAR,
                           put_together)
from tests.values import ANYTHING, LOOSE_ONLY, NO_LOOSE, NO_NUMBERS, NO_WEBS, TAILED

START = (0, 7, 8, 9)
NO_PIECES = [0, 6, 10, 1, 1000, -7] + [thing for thing in NO_NUMBERS if thing != 7] + ["7", (7,), [7], True, 7 * 10 ** 50]


def any_yard(web, random):
    return Yard(web, tuple(random.sample(range(web[0]), web[0])))


def fill(yard, many):
    """Moves to and fro until so many deeds stand."""
    while len(yard) < many:
        yard.move(reference.near(TAILED, yard.standing().index(0))[0])


class Model:
    """A yard by the words of the document, of which all is kept anew at each deed."""

    def __init__(self, web, standing):
        self.web = web
        self.kept = [(standing, [])]

    def copied(self):
        other = Model(self.web, None)
        other.kept = copy.deepcopy(self.kept)
        return other

    def keep(self, standing, moves):
        if len(self.kept) == 201:
            raise TooGreat("")
        self.kept.append((standing, self.kept[-1][1] + moves))

    def do(self, word, told):
        standing = self.kept[-1][0]
        if word == "undo":
            if len(self.kept) == 1:
                raise NoUndo("")
            self.kept.pop()
            return self.kept[-1][0]
        if word == "ask":
            return judge(self.web, standing, told)
        if word not in ("move", "lead"):
            raise NoDeed("")
        if isinstance(told, bool) or not isinstance(told, int) or not 0 <= told < self.web[0]:
            raise NoBay("")
        moves = [told] if word == "move" else first_path(self.web, standing.index(0), told)
        self.keep(done(self.web, standing, moves), moves)
        return self.kept[-1][0]

    def trial(self, things):
        """What a trial tells; it ends with all as it was, as a copy of the model is what it uses."""
        results = []
        inner = self.copied()
        for thing in things:
            if isinstance(thing, list):
                results.append(inner.trial(thing))
            elif thing == "undo":
                results.append(inner.do("undo", None))
            elif isinstance(thing, tuple) and len(thing) == 2:
                results.append(inner.do(*thing))
            else:
                raise NoDeed("")
        return results


def told_of(call, *arguments):
    """What a call returns, or the class of its error."""
    try:
        return call(*arguments)
    except BayError as error:
        return error.__class__


class YardTest(unittest.TestCase):

    def assert_is(self, yard, web, first, standing, many):
        """The yard answers as a new one with this standing, and its moves lead there."""
        self.assertEqual(yard.standing(), standing)
        self.assertEqual(len(yard), many)
        self.assertEqual(done(web, first, yard.moves()), standing)
        other = walks.exchanged(standing, 0, 1)
        self.assertEqual(yard.asked(other), Yard(web, standing).asked(other))

    def test_a_new_yard(self):
        yard = Yard(standing=START, web=TAILED)
        self.assertEqual((yard.standing(), yard.moves(), len(yard)), (START, [], 0))
        self.assertEqual(yard.asked((0, 9, 8, 7)), ("held", 7))
        self.assertEqual(yard.asked(other=(0, 8, 7, 9)), ("goes", 0))

    def test_no_yard_is_made(self):
        for web in NO_WEBS:
            self.assertRaises(NoWeb, Yard, web, (0, 1))
            self.assertRaises(NoWeb, Yard, web, None)
        for standing in NO_LOOSE + LOOSE_ONLY:
            self.assertRaises(NoStanding, Yard, TAILED, standing)

    def test_move(self):
        yard = Yard(TAILED, START)
        self.assertIsNone(yard.move(1))
        self.assertIsNone(yard.move(bay=2))
        self.assert_is(yard, TAILED, START, (7, 8, 0, 9), 2)
        self.assertEqual(yard.moves(), [1, 2])
        for bay in NO_NUMBERS + [4, 40]:
            self.assertRaises(NoBay, yard.move, bay)
        self.assertRaises(BadMove, yard.move, 2)
        yard.move(3)
        for bay in (0, 1, 3):
            self.assertRaises(BadMove, yard.move, bay)
        self.assert_is(yard, TAILED, START, (7, 8, 9, 0), 3)

    def test_lead(self):
        yard = Yard(TAILED, START)
        self.assertIsNone(yard.lead(3))
        self.assertEqual(yard.moves(), [2, 3])
        self.assertIsNone(yard.lead(bay=0))
        self.assert_is(yard, TAILED, START, led(TAILED, (8, 7, 9, 0), 0), 2)
        yard.lead(0)
        self.assertEqual((len(yard), yard.moves()), (3, [2, 3, 2, 0]))
        for bay in NO_NUMBERS + [4, 40]:
            self.assertRaises(NoBay, yard.lead, bay)
        for _ in range(3):
            self.assertIsNone(yard.undo())
        self.assert_is(yard, TAILED, START, START, 0)

    def test_lead_as_led_does(self):
        random = Random(71)
        for web in SMALL + [MIXED, GRID, CHAIN]:
            yard = any_yard(web, random)
            first = standing = yard.standing()
            for many in range(1, 9):
                bay = random.randrange(web[0])
                yard.lead(bay)
                standing = led(web, standing, bay)
                self.assert_is(yard, web, first, standing, many)

    def test_undo(self):
        yard = Yard(TAILED, START)
        self.assertRaises(NoUndo, yard.undo)
        yard.move(1)
        yard.lead(3)
        yard.shift(7, 2)
        yard.shift(8, 0)
        seen = []
        for many in (4, 3, 2, 1):
            self.assert_is(yard, TAILED, START, yard.standing(), many)
            seen.append(yard.standing())
            self.assertIsNone(yard.undo())
        self.assertEqual(seen[-2:], [led(TAILED, (7, 0, 8, 9), 3), (7, 0, 8, 9)])
        self.assert_is(yard, TAILED, START, START, 0)
        self.assertRaises(NoUndo, yard.undo)
        yard.move(2)
        self.assertEqual(yard.moves(), [2])

    def test_moves_is_a_new_list(self):
        yard = Yard(TAILED, START)
        yard.move(1)
        for deed in (lambda: yard.lead(3), lambda: yard.shift(9, 2), lambda: None):
            deed()
            kept = yard.moves()
            yard.moves().append(5)
            yard.moves().clear()
            self.assertEqual(yard.moves(), kept)

    def test_asked(self):
        yard = Yard(TAILED, START)
        yard.lead(3)
        for other in NO_LOOSE + LOOSE_ONLY:
            self.assertRaises(NoStanding, yard.asked, other)
        self.assertRaises(NoMatch, yard.asked, (0, 7, 8, 10))
        self.assertEqual(yard.asked((7, 8, 9, 0)), ("goes", 0))
        self.assertEqual(len(yard), 1)

    def test_two_yards_do_not_bear_on_one_another(self):
        first, second = Yard(TAILED, START), Yard(TAILED, START)
        first.move(1)
        with second:
            first.move(2)
            second.lead(3)
            first.undo()
        self.assertEqual((first.standing(), len(first)), ((7, 0, 8, 9), 1))
        self.assertEqual((second.standing(), len(second)), (START, 0))
        self.assertRaises(NoUndo, second.undo)

    def test_random_calls_against_the_model(self):
        random = Random(72)
        for web in SMALL[5:] + [MIXED, GRID]:
            yard = any_yard(web, random)
            first = yard.standing()
            model = Model(web, first)
            for _ in range(60):
                word = random.choice(("move", "move", "lead", "undo", "ask", "shift"))
                if word == "shift":
                    told = (random.randrange(web[0] + 1), random.randrange(web[0] + 1))
                    if told_of(yard.shift, *told) is None:
                        model.keep(yard.standing(), yard.moves()[len(model.kept[-1][1]):])
                elif word == "ask":
                    told = tuple(random.sample(first, web[0]))
                    self.assertEqual(yard.asked(told), model.do(word, told))
                else:
                    told = () if word == "undo" else (random.randrange(web[0] + 1),)
                    wanted = told_of(model.do, word, *told or (None,))
                    self.assertEqual(told_of(getattr(yard, word), *told), wanted if isinstance(wanted, type) else None)
                self.assertEqual((yard.standing(), yard.moves()), model.kept[-1])
                self.assert_is(yard, web, first, yard.standing(), len(model.kept) - 1)


class ShiftTest(unittest.TestCase):

    def check(self, yard, web, block, piece, bay):
        """The piece comes there exactly if the bay is one of the block that holds it."""
        before, many, moves = yard.standing(), len(yard), yard.moves()
        if bay not in block:
            self.assertRaises(NoWay, yard.shift, piece, bay)
            self.assertEqual((yard.standing(), len(yard), yard.moves()), (before, many, moves))
            return
        self.assertIsNone(yard.shift(piece, bay))
        self.assertEqual(yard.standing()[bay], piece)
        self.assertEqual(len(yard), many + 1)
        self.assertEqual(yard.moves()[:len(moves)], moves)
        own = yard.moves()[len(moves):]
        self.assertLessEqual(len(own), 2000)
        self.assertEqual(done(web, before, own), yard.standing())
        yard.undo()
        self.assertEqual((yard.standing(), len(yard), yard.moves()), (before, many, moves))

    def block_of(self, web, blocks, standing, piece):
        """The block that holds a piece, the empty bay led to bay 0."""
        bay = led(web, standing, 0).index(piece)
        return [block for block in blocks if bay in block and bay != reference.gate_of(web, block)][0]

    def check_all(self, web, blocks, random, share):
        yard = any_yard(web, random)
        for piece in range(1, web[0]):
            block = self.block_of(web, blocks, yard.standing(), piece)
            for bay in range(web[0]):
                if random.random() < share or bay == yard.standing().index(piece):
                    self.check(yard, web, block, piece, bay)

    def test_small_webs(self):
        random = Random(73)
        for web in SMALL + SEVENS + BLOCKS + reference.some_webs(15, 3, 7):
            self.check_all(web, reference.blocks(web), random, 1)

    def test_webs_put_together(self):
        random = Random(74)
        many = 0
        while many < 12:
            web, blocks = put_together(random.choices(BLOCKS + GREAT_BLOCKS, k=random.randrange(2, 9)), random)
            if web[0] <= 40:
                self.check_all(web, blocks, random, 4 / web[0])
                many += 1

    def test_great_webs(self):
        random = Random(75)
        everything = [tuple(range(40))]
        self.check_all(GRID, everything, random, 0.05)
        self.check_all(FULL, everything, random, 0.05)
        self.check_all(ROUND, everything, random, 0.1)
        for web in (PATH, STAR):
            self.check_all(web, list(web[1]), random, 0.2)
        self.check_all(CHAIN, [tuple(range(k, k + 4)) for k in range(0, 39, 3)], random, 0.2)

    def test_bays_of_the_great_ring_far_away(self):
        yard = Yard(ROUND, tuple(range(40)))
        for piece, bay in ((1, 20), (1, 21), (39, 19), (20, 0), (5, 5)):
            self.check(yard, ROUND, tuple(range(40)), piece, bay)

    def test_to_where_it_stands(self):
        yard = Yard(TAILED, START)
        for piece, bay in ((7, 1), (8, 2), (9, 3)):
            yard.shift(piece, bay)
            self.assertEqual(yard.standing()[bay], piece)
        self.assertEqual(len(yard), 3)

    def test_errors_in_their_order(self):
        yard = Yard(TAILED, START)
        for piece in NO_PIECES:
            for bay in (0, 1, 3, 4, None):
                self.assertRaises(NoPiece, yard.shift, piece, bay)
        for bay in NO_NUMBERS + [4, 40]:
            self.assertRaises(NoBay, yard.shift, 7, bay)
            self.assertRaises(NoBay, yard.shift, 9, bay)
        for piece, bay in ((7, 3), (8, 3), (9, 0), (9, 1)):
            self.assertRaises(NoWay, yard.shift, piece, bay)
        self.assertEqual((yard.standing(), len(yard)), (START, 0))
        yard.shift(bay=2, piece=9)
        self.assertEqual(yard.standing()[2], 9)
        self.assertRaises(NoPiece, Yard(TAILED, (0, 1, 2, 3)).shift, True, 2)


class BoundTest(unittest.TestCase):

    def test_two_hundred_deeds(self):
        yard = Yard(TAILED, START)
        fill(yard, 197)
        yard.lead(yard.standing().index(0))
        yard.shift(8, yard.standing().index(8))
        yard.lead(0)
        self.assertEqual(len(yard), 200)
        standing, moves = yard.standing(), yard.moves()
        self.assertRaises(TooGreat, yard.move, 1)
        self.assertRaises(TooGreat, yard.lead, 3)
        self.assertRaises(TooGreat, yard.lead, 0)
        self.assertRaises(TooGreat, yard.shift, 8, 2)
        self.assertRaises(TooGreat, yard.shift, 8, standing.index(8))
        self.assertRaises(NoBay, yard.move, 4)
        self.assertRaises(BadMove, yard.move, 3)
        self.assertRaises(NoBay, yard.lead, True)
        self.assertRaises(NoPiece, yard.shift, 5, 9)
        self.assertRaises(NoBay, yard.shift, 8, 9)
        self.assertRaises(NoWay, yard.shift, 8, 3)
        self.assertRaises(NoStanding, yard.asked, None)
        self.assertEqual(yard.asked(standing), ("goes", 0))
        self.assertEqual((yard.standing(), yard.moves(), len(yard)), (standing, moves, 200))
        self.assertEqual(done(TAILED, START, moves), standing)
        yard.undo()
        yard.lead(1)
        self.assertRaises(TooGreat, yard.move, 0)
        self.assertEqual(len(yard), 200)

    def test_within_a_stretch(self):
        yard = Yard(TAILED, START)
        fill(yard, 199)
        standing = yard.standing()
        with yard:
            yard.lead(0)
            self.assertRaises(TooGreat, yard.lead, 0)
            yard.undo()
            yard.lead(0)
            with yard:
                self.assertRaises(TooGreat, yard.lead, 0)
        yard.lead(0)
        self.assertEqual(len(yard), 200)
        yard.undo()
        self.assertEqual(yard.standing(), standing)

    def test_within_a_trial(self):
        yard = Yard(TAILED, START)
        fill(yard, 198)
        at = yard.standing().index(0)
        lead = ("lead", at)
        for things in ([lead, lead], [lead, [lead], lead], [[lead, lead], [lead, lead]], [lead, lead, "undo", lead],
                       ["undo"] * 198 + [lead] * 200, [lead, lead, ("ask", START)], [[["undo", lead, lead, lead]]]):
            self.assertEqual(len(trial(yard, things)), len(things))
        for things in ([lead] * 3, [lead, [lead, lead]], [[lead, lead], lead, [[lead, lead]]], [lead, lead, lead, None],
                       [lead, lead, "undo", lead, lead], [lead, lead, ("ask", START), lead]):
            self.assertRaises(TooGreat, trial, yard, things)
            self.assertEqual(len(yard), 198)
        self.assertRaises(NoBay, trial, yard, [lead, lead, ("lead", 4)])
        self.assertRaises(BadMove, trial, yard, [lead, lead, ("move", at)])
        yard.lead(at)
        yard.lead(at)
        self.assertEqual(trial(yard, ["undo", ("ask", yard.standing())]), [yard.standing(), ("goes", 0)])
        self.assertRaises(TooGreat, trial, yard, [("lead", at)])
        self.assertEqual(trial(yard, ["undo"] * 200)[-1], START)
        self.assertRaises(NoUndo, trial, yard, ["undo"] * 201)


class StretchTest(unittest.TestCase):

    def test_it_is_as_it_was(self):
        yard = Yard(TAILED, START)
        yard.move(1)
        with yard as held:
            self.assertIs(held, yard)
            yard.move(2)
            held.lead(3)
            yard.shift(7, 1)
            self.assertEqual(len(yard), 4)
            self.assertEqual(done(TAILED, START, yard.moves()), yard.standing())
        self.assertEqual((yard.standing(), yard.moves(), len(yard)), ((7, 0, 8, 9), [1], 1))
        yard.undo()
        self.assertEqual(yard.standing(), START)

    def test_an_error_goes_through(self):
        yard = Yard(TAILED, START)
        yard.move(1)
        for error, deed in ((BadMove, lambda: yard.move(3)), (NoBay, lambda: yard.lead(9)), (KeyError, lambda: {}[1]),
                            (NoUndo, lambda: [yard.undo() for _ in range(9)]), (ZeroDivisionError, lambda: 1 // 0)):
            with self.assertRaises(error):
                with yard:
                    yard.move(2)
                    yard.lead(0)
                    deed()
            self.assertEqual((yard.standing(), yard.moves(), len(yard)), ((7, 0, 8, 9), [1], 1))

    def test_leaving_it_by_return_and_break(self):
        yard = Yard(TAILED, START)

        def leave():
            with yard:
                yard.move(1)
                return yard.standing()

        self.assertEqual(leave(), (7, 0, 8, 9))
        for _ in range(2):
            with yard:
                yard.move(2)
                break
        self.assertEqual((yard.standing(), len(yard)), (START, 0))

    def test_undo_beyond_its_beginning(self):
        yard = Yard(TAILED, START)
        yard.move(1)
        yard.lead(3)
        kept = (yard.standing(), yard.moves(), len(yard))
        with yard:
            yard.undo()
            yard.undo()
            self.assertEqual((yard.standing(), yard.moves(), len(yard)), (START, [], 0))
            self.assertRaises(NoUndo, yard.undo)
            yard.move(2)
        self.assertEqual((yard.standing(), yard.moves(), len(yard)), kept)
        with self.assertRaises(NoUndo):
            with yard:
                yard.undo()
                yard.undo()
                yard.undo()
        self.assertEqual((yard.standing(), yard.moves(), len(yard)), kept)
        yard.undo()
        self.assertEqual((yard.standing(), yard.moves()), ((7, 0, 8, 9), [1]))

    def test_stretches_in_stretches(self):
        yard = Yard(TAILED, START)
        yard.move(1)
        with yard:
            yard.move(2)
            outer = (yard.standing(), yard.moves(), len(yard))
            with yard:
                yard.undo()
                yard.undo()
                yard.move(2)
                with yard:
                    yard.move(3)
                self.assertEqual(yard.moves(), [2])
            self.assertEqual((yard.standing(), yard.moves(), len(yard)), outer)
            with self.assertRaises(BadMove):
                with yard:
                    yard.move(0)
                    yard.move(0)
            self.assertEqual((yard.standing(), yard.moves(), len(yard)), outer)
            yard.move(3)
        self.assertEqual((yard.standing(), yard.moves(), len(yard)), ((7, 0, 8, 9), [1], 1))
        with yard:
            pass
        self.assertEqual(yard.moves(), [1])

    def test_random_stretches(self):
        random = Random(76)
        for web in (TAILED, RING, MIXED):
            yard = any_yard(web, random)
            first = yard.standing()

            def stretch(depth):
                before = (yard.standing(), yard.moves(), len(yard))
                with yard:
                    for _ in range(random.randrange(6)):
                        word = random.choice(("lead", "lead", "undo", "inner", "trial"))
                        if word == "inner" and depth < 5:
                            stretch(depth + 1)
                        elif word == "trial":
                            told_of(trial, yard, ["undo", ("lead", 1), [("move", 0)]])
                        elif word == "undo":
                            told_of(yard.undo)
                        else:
                            yard.lead(random.randrange(web[0]))
                        self.assertEqual(done(web, first, yard.moves()), yard.standing())
                self.assertEqual((yard.standing(), yard.moves(), len(yard)), before)

            for _ in range(30):
                yard.lead(random.randrange(web[0]))
                stretch(1)


class TrialTest(unittest.TestCase):

    def setUp(self):
        self.yard = Yard(TAILED, START)
        self.yard.move(1)

    def tearDown(self):
        self.assertEqual((self.yard.standing(), self.yard.moves(), len(self.yard)), ((7, 0, 8, 9), [1], 1))

    def test_steps(self):
        self.assertEqual(trial(self.yard, [("move", 2), ("lead", 0), "undo", ("ask", (0, 9, 8, 7))]),
                         [(7, 8, 0, 9), (0, 8, 7, 9), (7, 8, 0, 9), ("held", 7)])
        self.assertEqual(trial(things=["undo", ("lead", 0)], yard=self.yard), [START, START])
        self.assertEqual(trial(self.yard, []), [])

    def test_lists_in_lists(self):
        self.assertEqual(trial(self.yard, [("move", 2), [("move", 3), "undo"], ("move", 0)]),
                         [(7, 8, 0, 9), [(7, 8, 9, 0), (7, 8, 0, 9)], (0, 8, 7, 9)])
        self.assertEqual(trial(self.yard, [["undo", [], ("move", 2)], "undo"]),
                         [[START, [], (8, 7, 0, 9)], START])
        self.assertEqual(trial(self.yard, [[[[[]]]]]), [[[[[]]]]])
        self.assertEqual(trial(self.yard, [[[[["undo"]]]], []]), [[[[[START]]]], []])

    def test_the_same_list_twice(self):
        inner = [("move", 2), []]
        things = [inner, inner, [inner, inner]]
        told = trial(self.yard, things)
        one = [(7, 8, 0, 9), []]
        self.assertEqual(told, [one, one, [one, one]])
        lists = [told, told[0], told[1], told[2], told[2][0], told[2][1], told[0][1], told[1][1], told[2][0][1]]
        self.assertEqual(len({id(each) for each in lists}), len(lists))
        told[0].append(5)
        self.assertEqual(trial(self.yard, things), [one, one, [one, one]])
        self.assertEqual(things, [inner, inner, [inner, inner]])
        self.assertEqual(inner, [("move", 2), []])

    def test_no_things(self):
        six = [[[[[[]]]]]]
        for things in [thing for thing in ANYTHING if not isinstance(thing, list)] + [
                ("move", 2), "undo", (), (["undo"],), {0: []}, None, True]:
            self.assertRaises(NoThings, trial, self.yard, things)
        for things in (six, ["undo", six[0], "undo"], [None, six], [[], [[], [[[[], ["undo"]]]]]], [[[[[["undo"]]]]]]):
            self.assertRaises(NoThings, trial, self.yard, things)
        self.assertRaises(NoThings, trial, self.yard, [("move", 9), [[[[[("move", 2)]]]]]])

    def test_lists_within_what_is_no_list_do_not_count(self):
        six = [[[[[[]]]]]]
        self.assertRaises(NoStanding, trial, self.yard, [("ask", six)])
        self.assertRaises(NoDeed, trial, self.yard, [(six,)])
        self.assertRaises(NoDeed, trial, self.yard, [{0: six}])
        self.assertRaises(NoBay, trial, self.yard, [[[[[("move", six)]]]]])

    def test_no_deed(self):
        for thing in ANYTHING + [
                ("shift", 7, 2), ("shift", 7), ("undo",), ("undo", 0), ("ask",), ("ask", START, 0), ("move",), ("lead",),
                ("move", 1, 2), ("Move", 2), (2, "move"), ("", 2), (None, 2), (True, 2), (["move"], 2), (("move",), 2),
                (b"move", 2), "move", "lead", "ask", "Undo", "undo ", b"undo", ("with", 1), ("trial", []), ("standing", 0)]:
            if not isinstance(thing, list):
                self.assertRaises(NoDeed, trial, self.yard, [thing])
                self.assertRaises(NoDeed, trial, self.yard, [("move", 2), [("move", 0), [thing], ("move", 9)]])

    def test_pairs_with_any_second_member(self):
        for thing in NO_NUMBERS + [4, 40]:
            self.assertRaises(NoBay, trial, self.yard, [("move", thing)])
            self.assertRaises(NoBay, trial, self.yard, [[("lead", thing)]])
        for thing in NO_LOOSE + LOOSE_ONLY:
            self.assertRaises(NoStanding, trial, self.yard, [("ask", thing)])
        self.assertRaises(NoMatch, trial, self.yard, [("ask", (0, 7, 8, 10))])
        self.assertRaises(BadMove, trial, self.yard, [("move", 3)])

    def test_the_first_refused_step(self):
        things = [("move", 3), None, "undo", ("move", 2), ("lead", 4), ("ask", None)]
        errors = [BadMove, NoDeed, None, None, NoBay, NoStanding]
        for first, error in zip(things, errors):
            for later, late in zip(things, errors):
                wanted = error or late
                if wanted and not (error is None and late is BadMove):
                    self.assertRaises(wanted, trial, self.yard, [first, later])
                    self.assertRaises(wanted, trial, self.yard, [[first], [[later]]])
        self.assertRaises(NoUndo, trial, self.yard, ["undo", "undo", ("move", 9)])
        self.assertRaises(NoUndo, trial, self.yard, ["undo", ["undo"], None])
        self.assertEqual(trial(self.yard, ["undo", ("move", 1), ["undo"], "undo"]), [START, (7, 0, 8, 9), [START], START])

    def test_no_yard(self):
        for yard in ANYTHING + NO_WEBS[:40] + [Yard, object(), (TAILED, START), [self.yard], (self.yard,)]:
            for things in ([], ["undo"], [("move", 9)], None, (), [[[[[[]]]]]]):
                self.assertRaises(NoYard, trial, yard, things)

    def test_within_a_stretch(self):
        with self.yard:
            self.yard.undo()
            self.assertEqual(trial(self.yard, [("move", 2), "undo"]), [(8, 7, 0, 9), START])
            self.assertRaises(NoUndo, trial, self.yard, ["undo"])

    def test_random_trials_against_the_model(self):
        random = Random(77)

        def any_things(web, depth):
            things = []
            for _ in range(random.randrange(5)):
                word = random.choice(("move", "move", "lead", "undo", "undo", "ask", "list", "none"))
                if word == "list" and depth < 5:
                    things.append(any_things(web, depth + 1))
                elif word == "undo":
                    things.append("undo")
                elif word == "ask":
                    things.append((word, tuple(random.sample(range(web[0]), web[0]))))
                elif word == "none":
                    things.append(random.choice((("lead", 0), None, ("lead", 1))))
                else:
                    things.append((word, random.randrange(web[0])))
            return things

        results = 0
        for web in SMALL[4:] + [MIXED]:
            yard = any_yard(web, random)
            model = Model(web, yard.standing())
            for _ in range(random.randrange(4)):
                bay = random.randrange(web[0])
                yard.lead(bay)
                model.do("lead", bay)
            before = (yard.standing(), yard.moves(), len(yard))
            for _ in range(30):
                things = any_things(web, 1)
                kept = copy.deepcopy(things)
                wanted = told_of(model.trial, things)
                self.assertEqual(told_of(trial, yard, things), wanted, things)
                self.assertEqual((yard.standing(), yard.moves(), len(yard)), before)
                self.assertEqual(things, kept)
                results += isinstance(wanted, list) and len(wanted) > 1
        self.assertGreater(results, 60)
