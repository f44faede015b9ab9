"""Point [16]: halls; and what point [1] says of them."""

import unittest
from collections import Counter
from random import Random

from sparebay.errors import (BadMove, BayError, NoBay, NoStanding, NoTie, NotKept, NoUndo, NoWay, NoWeb, NoWish, Parted,
                             TooGreat)
from sparebay.halls import Hall
from sparebay.judges import judge
from sparebay.webs import is_web
from tests import reference, walks
from tests.samples import FULL, GRID, MIXED, PATH, RING, ROUND, SMALL
from tests.test_wishes import NO_WISHES, meets
from tests.values import LOOSE_ONLY, NO_LOOSE, NO_NUMBERS, NO_WEBS, TAILED

START = (0, 7, 8, 9)


def state(hall):
    return (hall.web_now(), hall.standing(), hall.wishes(), len(hall))


def bay_or_error(web, thing):
    if isinstance(thing, bool) or not isinstance(thing, int) or not 0 <= thing < web[0]:
        raise NoBay("")


class Model:
    """A hall by the words of the document: whether wishes can be met is looked up in walks."""

    def __init__(self, web, standing):
        self.states = [(web, standing, [])]
        self.walked = {}

    def can(self, web, standing, wish):
        if (web, standing) not in self.walked:
            self.walked[web, standing] = walks.walked(web, standing)
        return any(meets(reached, wish) for reached in self.walked[web, standing])

    def keep(self, web, standing, wishes):
        if len(self.states) == 201:
            raise TooGreat("")
        self.states.append((web, standing, wishes))

    def move(self, bay):
        web, standing, wishes = self.states[-1]
        bay_or_error(web, bay)
        if bay not in reference.near(web, standing.index(0)):
            raise BadMove("")
        self.keep(web, walks.moved(standing, bay), wishes)

    def tie(self, a, b):
        web, standing, wishes = self.states[-1]
        bay_or_error(web, a)
        bay_or_error(web, b)
        if not a < b or (a, b) in web[1]:
            raise NoTie("")
        self.keep((web[0], tuple(sorted(web[1] + ((a, b),)))), standing, wishes)

    def untie(self, a, b):
        web, standing, wishes = self.states[-1]
        bay_or_error(web, a)
        bay_or_error(web, b)
        if (a, b) not in web[1]:
            raise NoTie("")
        rest = (web[0], tuple(tie for tie in web[1] if tie != (a, b)))
        if len(reference.reached(rest, 0)) < rest[0]:
            raise Parted("")
        if not all(self.can(rest, standing, wish) for wish in wishes):
            raise NoWay("")
        self.keep(rest, standing, wishes)

    def wish(self, web, wish):
        if (not isinstance(wish, tuple) or len(wish) != web[0] or sum(piece == 0 for piece in wish) != 1
                or not all(piece is None or type(piece) is int and 0 <= piece < 1000 for piece in wish)):
            raise NoWish("")

    def keep_wish(self, wish):
        web, standing, wishes = self.states[-1]
        self.wish(web, wish)
        if not self.can(web, standing, wish):
            raise NoWay("")
        self.keep(web, standing, wishes + [wish])

    def drop(self, wish):
        web, standing, wishes = self.states[-1]
        self.wish(web, wish)
        if wish not in wishes:
            raise NotKept("")
        last = max(k for k, kept in enumerate(wishes) if kept == wish)
        self.keep(web, standing, wishes[:last] + wishes[last + 1:])

    def undo(self):
        if len(self.states) == 1:
            raise NoUndo("")
        self.states.pop()


def error_of(call, *arguments):
    try:
        return call(*arguments)
    except BayError as error:
        return error.__class__


class HallTest(unittest.TestCase):

    def refused(self, error, call, *arguments):
        """The call raises the error, and changes nothing."""
        before = state(call.__self__)
        self.assertRaises(error, call, *arguments)
        self.assertEqual(state(call.__self__), before)

    def test_a_new_hall(self):
        hall = Hall(standing=START, web=TAILED)
        self.assertEqual(state(hall), (TAILED, START, [], 0))
        self.assertEqual(hall.met(), [])
        self.refused(NoUndo, hall.undo)

    def test_no_hall_is_made(self):
        for web in NO_WEBS:
            self.assertRaises(NoWeb, Hall, web, (0, 1))
            self.assertRaises(NoWeb, Hall, web, None)
        for standing in NO_LOOSE + LOOSE_ONLY:
            self.assertRaises(NoStanding, Hall, TAILED, standing)

    def test_move(self):
        hall = Hall(TAILED, START)
        self.assertIsNone(hall.move(1))
        self.assertIsNone(hall.move(bay=2))
        self.assertEqual(state(hall), (TAILED, (7, 8, 0, 9), [], 2))
        for bay in NO_NUMBERS + [4, 40]:
            self.refused(NoBay, hall.move, bay)
        self.refused(BadMove, hall.move, 2)
        hall.move(3)
        for bay in (0, 1, 3):
            self.refused(BadMove, hall.move, bay)

    def test_moves_along_ties_by_then(self):
        hall = Hall(TAILED, START)
        self.refused(BadMove, hall.move, 3)
        hall.tie(0, 3)
        hall.move(3)
        self.assertEqual(hall.standing(), (9, 7, 8, 0))
        hall.untie(2, 3)
        self.refused(BadMove, hall.move, 2)
        hall.move(0)

    def test_tie(self):
        hall = Hall(TAILED, START)
        self.assertIsNone(hall.tie(1, 3))
        self.assertEqual(hall.web_now(), (4, ((0, 1), (0, 2), (1, 2), (1, 3), (2, 3))))
        self.assertIsNone(hall.tie(b=3, a=0))
        self.assertEqual(hall.web_now(), (4, ((0, 1), (0, 2), (0, 3), (1, 2), (1, 3), (2, 3))))
        self.assertTrue(is_web(hall.web_now()))
        for a, b in [(0, 1), (2, 3), (1, 3), (0, 3), (0, 0), (3, 3), (3, 1), (1, 0)]:
            self.refused(NoTie, hall.tie, a, b)
        self.assertEqual(TAILED, (4, ((0, 1), (0, 2), (1, 2), (2, 3))))

    def test_untie(self):
        hall = Hall(TAILED, START)
        self.refused(Parted, hall.untie, 2, 3)
        self.assertIsNone(hall.untie(0, 1))
        self.assertEqual(hall.web_now(), (4, ((0, 2), (1, 2), (2, 3))))
        for a, b in [(0, 1), (0, 3), (1, 3), (2, 0), (3, 2), (2, 2)]:
            self.refused(NoTie, hall.untie, a, b)
        for a, b in [(0, 2), (1, 2), (2, 3)]:
            self.refused(Parted, hall.untie, a, b)
        hall.tie(0, 1)
        self.assertIsNone(hall.untie(b=2, a=0))
        self.assertEqual(state(hall), ((4, ((0, 1), (1, 2), (2, 3))), START, [], 3))

    def test_untie_where_a_wish_could_not_be_met(self):
        hall = Hall(TAILED, START)
        hall.keep((0, 8, 7, None))
        for a, b in [(0, 1), (0, 2), (1, 2)]:
            self.refused(NoWay, hall.untie, a, b)
        self.refused(Parted, hall.untie, 2, 3)
        hall.drop((0, 8, 7, None))
        hall.untie(0, 1)
        self.assertEqual(len(hall), 3)
        # What counts is the standing by then: here the wish has come about.
        hall = Hall(TAILED, START)
        hall.keep((0, 8, 7, None))
        for bay in (1, 2, 0):
            hall.move(bay)
        hall.untie(0, 1)
        self.assertEqual(hall.met(), [(0, 8, 7, 9)])

    def test_errors_of_ties_in_their_order(self):
        hall = Hall(TAILED, START)
        for call in (hall.tie, hall.untie):
            for thing in NO_NUMBERS + [4, 40]:
                for other in (0, 1, 3, 4, None):
                    self.refused(NoBay, call, thing, other)
                    if other not in (4, None):
                        self.refused(NoBay, call, other, thing)

    def test_keep_and_drop(self):
        hall = Hall(TAILED, START)
        wishes = [(0, 8, None, None), (None, 0, None, None), (0, None, 7, None), (0, 8, None, None)]
        for wish in wishes:
            self.assertIsNone(hall.keep(wish))
        self.assertEqual(hall.wishes(), wishes)
        self.assertEqual([meets(standing, wish) for standing, wish in zip(hall.met(), wishes)], [True] * 4)
        for wish in [(0, 9, None, None), (0, 8, 7, 9 + 1), (0, 7, 7, None), (9, None, None, 0), (0, 1, 2, 3)]:
            self.refused(NoWay, hall.keep, wish)
            self.refused(NotKept, hall.drop, wish)
        self.assertIsNone(hall.drop(wish=(0, 8, None, None)))
        self.assertEqual(hall.wishes(), wishes[:3])
        hall.drop((None, 0, None, None))
        self.refused(NotKept, hall.drop, (None, 0, None, None))
        self.assertEqual(hall.wishes(), [wishes[0], wishes[2]])
        hall.drop((0, 8, None, None))
        hall.keep(wish=(0, 8, None, None))
        self.assertEqual(hall.wishes(), [wishes[2], wishes[0]])
        self.assertEqual(len(hall), 8)

    def test_no_wish(self):
        hall = Hall(TAILED, START)
        hall.keep((0, None, None, None))
        for wish in NO_WISHES:
            self.refused(NoWish, hall.keep, wish)
            self.refused(NoWish, hall.drop, wish)
        hall = Hall(TAILED, (0, 1, 2, 3))
        hall.keep((0, 1, None, None))
        self.refused(NoWish, hall.drop, (0, True, None, None))
        self.refused(NoWish, hall.drop, (False, 1, None, None))

    def test_undo_of_each_deed(self):
        hall = Hall(TAILED, START)
        states = []
        for deed in (lambda: hall.keep((0, 8, None, None)), lambda: hall.tie(1, 3), lambda: hall.move(2),
                     lambda: hall.untie(0, 2), lambda: hall.keep((None, None, None, 0)), lambda: hall.move(1),
                     lambda: hall.drop((0, 8, None, None)), lambda: hall.tie(0, 3)):
            states.append(state(hall))
            self.assertIsNone(deed())
        for before in reversed(states):
            self.assertIsNone(hall.undo())
            self.assertEqual(state(hall), before)
        self.refused(NoUndo, hall.undo)

    def test_new_lists(self):
        hall = Hall(TAILED, START)
        wish = (0, None, None, None)
        hall.keep(wish)
        hall.wishes().append(5)
        hall.wishes().clear()
        hall.met().clear()
        self.assertEqual((hall.wishes(), len(hall.met())), ([wish], 1))
        kept = hall.wishes()
        hall.keep(wish)
        self.assertEqual((kept, hall.wishes()), ([wish], [wish, wish]))
        met = hall.met()
        hall.undo()
        self.assertEqual((len(met), len(hall.met())), (2, 1))

    def test_two_hundred_deeds(self):
        hall = Hall(TAILED, START)
        wish = (0, None, None, None)
        hall.keep(wish)
        hall.tie(0, 3)
        hall.untie(0, 3)
        hall.keep(wish)
        hall.drop(wish)
        for bay in [1, 2, 0] * 65:
            hall.move(bay)
        self.assertEqual(len(hall), 200)
        for call, arguments in [(hall.move, (1,)), (hall.tie, (0, 3)), (hall.untie, (0, 1)), (hall.keep, (wish,)),
                                (hall.drop, (wish,))]:
            self.refused(TooGreat, call, *arguments)
        for error, call, arguments in [
                (NoBay, hall.move, (4,)), (BadMove, hall.move, (3,)), (NoBay, hall.tie, (0, 4)), (NoTie, hall.tie, (0, 1)),
                (NoBay, hall.untie, (-1, 0)), (NoTie, hall.untie, (0, 3)), (Parted, hall.untie, (2, 3)),
                (NoWish, hall.keep, (None,)), (NoWay, hall.keep, ((0, 9, None, None),)), (NoWish, hall.drop, ((),)),
                (NotKept, hall.drop, ((0, 7, 8, 9),))]:
            self.refused(error, call, *arguments)
        self.assertEqual((hall.wishes(), len(hall.met())), ([wish], 1))
        hall.undo()
        hall.keep((0, 8, 7, None))
        self.refused(TooGreat, hall.keep, wish)
        self.refused(NoWay, hall.untie, 0, 2)
        self.refused(TooGreat, hall.untie, 0, 1)
        for _ in range(200):
            hall.undo()
        self.refused(NoUndo, hall.undo)
        self.assertEqual(state(hall), (TAILED, START, [], 0))

    def test_two_halls_do_not_bear_on_one_another(self):
        first, second = Hall(TAILED, START), Hall(TAILED, START)
        first.keep((0, None, None, 9))
        first.tie(0, 3)
        second.move(1)
        self.assertEqual(state(second), (TAILED, (7, 0, 8, 9), [], 1))
        self.assertEqual(state(first)[1:], (START, [(0, None, None, 9)], 2))
        second.undo()
        self.refused(NoUndo, second.undo)

    def test_great_halls(self):
        random = Random(81)
        for web in (PATH, ROUND, FULL, GRID, MIXED):
            start = tuple(range(web[0]))
            hall = Hall(web, start)
            for _ in range(12):
                word = random.choice(("move", "tie", "untie", "keep", "undo"))
                a, b = sorted(random.sample(range(web[0]), 2))
                if word == "keep":
                    wish = [None] * web[0]
                    wish[a], wish[b] = 0, random.randrange(1, web[0])
                    error_of(hall.keep, tuple(wish))
                elif word == "untie":
                    error_of(hall.untie, *random.choice(hall.web_now()[1]))
                elif word == "tie":
                    error_of(hall.tie, a, b)
                else:
                    error_of(hall.move, random.choice(reference.near(hall.web_now(), hall.standing().index(0))))
                self.assertTrue(is_web(hall.web_now()))
                self.assertEqual(len(hall.met()), len(hall.wishes()))
                for standing, wish in zip(hall.met(), hall.wishes()):
                    self.assertTrue(meets(standing, wish))
                    self.assertEqual(judge(hall.web_now(), hall.standing(), standing), ("goes", 0))


class ModelTest(unittest.TestCase):

    def any_call(self, random, hall, pieces):
        n = hall.web_now()[0]
        word = random.choice(("move", "move", "tie", "tie", "untie", "untie", "untie", "keep", "keep", "drop", "undo"))
        if word == "undo":
            return word, ()
        if word == "move":
            return word, (random.randrange(-1, n + 1) if random.random() < 0.1 else
                          random.choice(reference.near(hall.web_now(), hall.standing().index(0))),)
        if word == "untie" and random.random() < 0.8:
            return word, random.choice(hall.web_now()[1])
        if word in ("tie", "untie"):
            a, b = random.randrange(n), random.randrange(n)
            return word, (random.choice((-1, n, True, None)), b) if random.random() < 0.05 else (min(a, b), max(a, b))
        if word == "drop" and hall.wishes() and random.random() < 0.8:
            return word, (random.choice(hall.wishes()),)
        wish = random.sample(pieces, n)
        for bay in range(n):
            if wish[bay] and random.random() < 0.6:
                wish[bay] = None
        return word, (tuple(wish),)

    def test_random_deeds_against_walks(self):
        random = Random(82)
        seen = Counter()
        for web in [web for web in SMALL if 2 < web[0] < 6] + reference.some_webs(14, 4, 5) + [RING, TAILED]:
            pieces = [0] + random.sample(range(1, 1000), web[0] - 1)
            standing = tuple(random.sample(pieces, web[0]))
            hall, model = Hall(web, standing), Model(web, standing)
            for _ in range(70):
                word, told = self.any_call(random, hall, pieces)
                wanted = error_of(getattr(model, "keep_wish" if word == "keep" else word), *told)
                self.assertEqual(error_of(getattr(hall, word), *told), wanted, (word, told))
                seen[word, wanted] += 1
                self.assertEqual(state(hall), (*model.states[-1], len(model.states) - 1))
                met = hall.met()
                self.assertEqual(len(met), len(hall.wishes()))
                for reached, wish in zip(met, hall.wishes()):
                    self.assertTrue(meets(reached, wish))
                    self.assertTrue(model.can(hall.web_now(), hall.standing(), reached))
        for case in [("move", None), ("move", NoBay), ("tie", None), ("tie", NoTie), ("tie", NoBay), ("untie", None),
                     ("untie", NoTie), ("untie", Parted), ("untie", NoWay), ("keep", None), ("keep", NoWay),
                     ("drop", None), ("drop", NotKept), ("undo", None)]:
            self.assertGreater(seen[case], 2, case)
