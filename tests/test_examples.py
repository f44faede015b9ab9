"""The worked examples of the document, as they stand there, and those of README.md."""

import doctest
import os
import unittest

EXAMPLES = {
    "webs": """
>>> from sparebay.webs import first_path, neighbours, sides
>>> web = (4, ((0, 1), (0, 2), (1, 2), (2, 3)))
>>> [neighbours(web, 2), first_path(web, 1, 3), sides(web)]
[[0, 1, 3], [2, 3], None]
""",
    "blocks": """
>>> from sparebay.blocks import blocks, gates, kinds, round_of
>>> web = (4, ((0, 1), (0, 2), (1, 2), (2, 3)))
>>> [blocks(web), gates(web), kinds(web), round_of(web, 0)]
[[(0, 1, 2), (2, 3)], [0, 2], ['ring', 'bridge'], [0, 1, 2]]
""",
    "standings": """
>>> from sparebay.standings import done, led
>>> web = (4, ((0, 1), (0, 2), (1, 2), (2, 3)))
>>> [done(web, (0, 7, 8, 9), [1, 2]), led(web, (0, 7, 8, 9), 3)]
[(7, 8, 0, 9), (8, 7, 9, 0)]
""",
    "judges, a ring": """
>>> from sparebay.judges import judge
>>> ring = (4, ((0, 1), (0, 3), (1, 2), (2, 3)))
>>> [judge(ring, (0, 1, 2, 3), (0, 2, 3, 1)), judge(ring, (0, 1, 2, 3), (0, 2, 1, 3))]
[('goes', 0), ('ring', 0)]
""",
    "judges, an even block": """
>>> from sparebay.judges import judge
>>> web = (5, ((0, 2), (0, 3), (0, 4), (1, 2), (1, 3), (1, 4)))
>>> [judge(web, (0, 1, 2, 3, 4), (0, 2, 1, 3, 4)), judge(web, (0, 1, 2, 3, 4), (0, 2, 3, 1, 4))]
[('sign', 0), ('goes', 0)]
""",
    "forms": """
>>> from sparebay.forms import normal_form
>>> ring = (4, ((0, 1), (0, 3), (1, 2), (2, 3)))
>>> [normal_form(ring, (0, 3, 1, 2)), normal_form(ring, (0, 2, 1, 3))]
[(0, 1, 2, 3), (0, 1, 3, 2)]
""",
    "ways": """
>>> from sparebay.ways import fewest, levels
>>> web = (4, ((0, 1), (0, 2), (1, 2), (2, 3)))
>>> [len(fewest(web, (0, 7, 8, 9), (0, 8, 7, 9))), levels((3, ((0, 1), (0, 2), (1, 2))), (0, 1, 2))]
[3, [1, 2, 2, 1]]
""",
    "tours": """
>>> from sparebay.tours import done_many, order_of, turned
>>> web = (4, ((0, 1), (0, 2), (1, 2), (2, 3)))
>>> [turned(web, 0, [1, 2, 0]), order_of(web, 0, [1, 2, 0]), done_many(web, (0, 7, 8, 9), [1, 2, 0], 10 ** 30 - 1)]
[(0, 2, 1, 3), 2, (0, 8, 7, 9)]
""",
    "counts": """
>>> from sparebay.counts import classes, how_many, mends
>>> ring = (4, ((0, 1), (0, 3), (1, 2), (2, 3)))
>>> [how_many(ring, (0, 5, 5, 6)), classes(ring), mends(ring)]
[12, 2, [(0, 2), (1, 3)]]
""",
    "wishes": """
>>> from sparebay.wishes import meeting
>>> ring = (4, ((0, 1), (0, 3), (1, 2), (2, 3)))
>>> [meeting(ring, (0, 1, 2, 3), (0, 2, None, None)), meeting(ring, (0, 1, 2, 3), (0, 2, 1, None))]
[(0, 2, 3, 1), None]
""",
    "yards": """
>>> from sparebay.yards import Yard, trial
>>> yard = Yard((4, ((0, 1), (0, 2), (1, 2), (2, 3))), (0, 7, 8, 9))
>>> yard.shift(7, 2)
>>> [yard.standing()[2], len(yard), trial(yard, ['undo', ('move', 1)])]
[7, 1, [(0, 7, 8, 9), (7, 0, 8, 9)]]
""",
    "whys": """
>>> from sparebay.whys import shows_why, why
>>> ring, one, other = (4, ((0, 1), (0, 3), (1, 2), (2, 3))), (0, 1, 2, 3), (0, 2, 1, 3)
>>> [shows_why(ring, one, other, ('ring', (0, 1, 2, 3))), shows_why(ring, one, other, ('sign', (0, 2), (1, 3))), why(ring, one, one)]
[True, True, None]
""",
    "halls": """
>>> from sparebay.halls import Hall
>>> hall = Hall((4, ((0, 1), (0, 2), (1, 2), (2, 3))), (0, 7, 8, 9))
>>> hall.keep((0, 8, 7, None))
>>> hall.tie(0, 3)
>>> hall.untie(2, 3)
>>> [hall.web_now()[1], hall.met(), len(hall)]
[((0, 1), (0, 2), (0, 3), (1, 2)), [(0, 8, 7, 9)], 3]
""",
}
README = os.path.join(os.path.dirname(os.path.dirname(os.path.abspath(__file__))), "README.md")


class ExamplesTest(unittest.TestCase):

    def check(self, text, name):
        found = doctest.DocTestParser().get_doctest(text, {}, name, name, 0)
        told = []
        result = doctest.DocTestRunner(verbose=False).run(found, out=told.append)
        self.assertGreater(result.attempted, 0)
        self.assertEqual(result.failed, 0, "".join(told))

    def test_worked_examples(self):
        for name in EXAMPLES:
            with self.subTest(name):
                self.check(EXAMPLES[name], name)

    def test_readme(self):
        with open(README, encoding="utf-8") as file:
            self.check(file.read(), "README.md")
