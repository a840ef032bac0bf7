"""The examples of the document, word for word, one stage behind the other."""

import doctest
import unittest

STAGE_1 = '''
>>> from aheadbehind.boxes import Box
>>> late = Box(3, [0], [(0, "flip", "ok", 1), (1, "look", "tail", 2), (1, "look", "head", 2)])
>>> early = Box(4, [0], [(0, "flip", "ok", 1), (0, "flip", "ok", 2), (1, "look", "head", 3), (2, "look", "tail", 3)])
>>> [late.signs(), late.is_sure, early.is_sure, early[0], len(early), late.turned().starts()]
[[('flip', 'ok'), ('look', 'head'), ('look', 'tail')], True, False, {('flip', 'ok'): [1, 2]}, 4, [0, 1, 2]]
>>> [late - (1, "look", "tail", 2), early.with_starts([2]).part()]
[Box(3, [0], [(0, 'flip', 'ok', 1), (1, 'look', 'head', 2)]), Box(2, [0], [(0, 'look', 'tail', 1)])]
'''


class TestExamples(unittest.TestCase):
    def test_examples(self):
        examples = doctest.DocTestParser().get_doctest(STAGE_1, {}, "stage 1", None, 0)
        said = []
        results = doctest.DocTestRunner(verbose=False).run(examples, out=said.append)
        self.assertEqual(results.failed, 0, "".join(said))
        self.assertEqual(results.attempted, 5)

    def test_the_repr_of_the_interface(self):
        from aheadbehind.boxes import Box
        self.assertEqual(repr(Box(2, [0], [(0, "go", "ok", 1)])), "Box(2, [0], [(0, 'go', 'ok', 1)])")
