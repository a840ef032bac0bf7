"""The examples of the document, word for word, one stage behind the other."""

import doctest
import unittest

from aheadbehind.boxes import Box
from aheadbehind.fans import Fan
from aheadbehind.matchings import Matching
from aheadbehind.muffled import Muffled

STAGE_1 = '''
>>> from aheadbehind.boxes import Box
>>> late = Box(3, [0], [(0, "flip", "ok", 1), (1, "look", "tail", 2), (1, "look", "head", 2)])
>>> early = Box(4, [0], [(0, "flip", "ok", 1), (0, "flip", "ok", 2), (1, "look", "head", 3), (2, "look", "tail", 3)])
>>> [late.signs(), late.is_sure, early.is_sure, early[0], len(early), late.turned().starts()]
[[('flip', 'ok'), ('look', 'head'), ('look', 'tail')], True, False, {('flip', 'ok'): [1, 2]}, 4, [0, 1, 2]]
>>> [late - (1, "look", "tail", 2), early.with_starts([2]).part()]
[Box(3, [0], [(0, 'flip', 'ok', 1), (1, 'look', 'head', 2)]), Box(2, [0], [(0, 'look', 'tail', 1)])]
'''

STAGE_2 = '''
>>> from aheadbehind.rows import ahead, behind, next_signs, row_count, row_to, rows
>>> [behind(early, [("flip", "ok")]), ahead(early, [("look", "tail")]), row_to(early, 3), row_count(late, 2)]
[[1, 2], [2], [('flip', 'ok'), ('look', 'head')], 2]
>>> list(zip(range(3), rows(early)))
[(0, []), (1, [('flip', 'ok')]), (2, [('flip', 'ok'), ('look', 'head')])]
>>> next_signs(early, [("flip", "ok")])
[('look', 'head'), ('look', 'tail')]
'''

STAGE_3 = '''
>>> from aheadbehind.forms import form, sets_box
>>> from aheadbehind.standing import are_alike, missing_row, stands_for
>>> [stands_for(late, early), are_alike(late, early), missing_row(early, late - (1, "look", "tail", 2)), form(early) == late]
[True, True, [('flip', 'ok'), ('look', 'tail')], True]
>>> sets_box(early)
(Box(3, [0], [(0, 'flip', 'ok', 1), (1, 'look', 'head', 2), (1, 'look', 'tail', 2)]), [(0,), (1, 2), (3,)])
'''

STAGE_4 = '''
>>> from aheadbehind.matchings import Backward, Forward, are_forward_falls, forward_kept
>>> [Backward.greatest(late, early), Forward.greatest(early, late).partners(1)]
[Backward([(0, 0), (1, 1), (1, 2), (2, 3)]), [1]]
>>> forward_kept(late, early)
[(2, 0), (2, 1), (2, 2), (2, 3)]
>>> look = [(1, 1, (1, "look", "tail", 2)), (1, 2, (1, "look", "head", 2)), (0, 0, (0, "flip", "ok", 1))]
>>> [are_forward_falls(late, early, look), are_forward_falls(late, early, look[1:])]
[True, False]
'''

STAGE_5 = '''
>>> from aheadbehind.fans import Fan, Guessing, Remembering
>>> [Remembering.thin(late, early), Guessing.thin(late, early).sets()]
[Remembering({0: [(0,)], 1: [(1, 2)], 2: [(3,)]}), {0: [(0,)], 1: [(1,), (2,)], 2: [(0, 1, 2, 3)]}]
>>> [Remembering.least_girth(late, early), Guessing.least_girth(late, early), Guessing.of_singles(Backward.greatest(late, early))[1]]
[2, 1, [(1,), (2,)]]
'''

STAGE_6 = '''
>>> from aheadbehind.families import least_families, least_size
>>> from aheadbehind.looks import foreseeing, least_look
>>> from aheadbehind.middles import is_middle, middle
>>> middle(Remembering.thin(late, early)) == (late, [(0, 0), (1, 1), (2, 2)], [(0, 0), (1, 1), (1, 2), (2, 3)])
True
>>> [least_families(late, early, "remembering"), least_size(late, early, "guessing")]
[[[(0,), (1, 2), (3,)]], None]
>>> [least_look(late, early, "remembering"), least_look(late, early, "guessing"), foreseeing(Box(1, [0], [(0, "go", "ok", 0)]), 1)]
[0, 1, (Box(2, [0, 1], [(1, 'go', 'ok', 0), (1, 'go', 'ok', 1)]), [(0, ()), (0, (('go', 'ok'),))])]
'''

STAGE_7 = '''
>>> from aheadbehind.muffled import Muffled, stands
>>> from aheadbehind.together import beside, in_step
>>> shy = Muffled(2, [0], [(0, "go", "ok", 0)], [(0, 1)])
>>> [shy.plain(), shy.firm(["go"]), Muffled(1, [0], [], [(0, 0)]).awake(["go"])]
[Box(2, [0, 1], [(0, 'go', 'ok', 0), (0, 'go', 'ok', 1)]), Box(2, [0, 1], [(0, 'go', 'no', 1), (0, 'go', 'ok', 0), (0, 'go', 'ok', 1), (1, 'go', 'no', 1)]), Box(2, [0], [(0, 'go', 'ever', 1)])]
>>> sure = Muffled(1, [0], [(0, "go", "ok", 0)])
>>> [stands(shy, sure, "plain", ["go"]), stands(shy, sure, "firm", ["go"]), stands(sure, shy, "firm", ["go"])]
[True, False, True]
>>> beside(Box(1, [0], [(0, "a", "r", 0)]), Box(2, [0], [(0, "b", "r", 1)]))
Box(2, [0], [(0, 'a', 'r', 0), (0, 'b', 'r', 1), (1, 'a', 'r', 1)])
'''

STAGE_8 = '''
>>> from aheadbehind.changes import fewest_left_out, leave_outs
>>> from aheadbehind.listener import Listener
>>> from aheadbehind.parts import room
>>> leave_outs(early, late - (1, "look", "tail", 2))
[[(0, 'flip', 'ok', 2)], [(2, 'look', 'tail', 3)]]
>>> ear = Listener(early)
>>> [ear("flip", "ok"), ear.answers("look"), ear("look", "tail"), ear.at(1), ear.row]
[[1, 2], ['head', 'tail'], [3], [2], [('flip', 'ok'), ('look', 'tail')]]
>>> room(Box(1, [0], [(0, "go", "ok", 0)]), Box(2, [0], [(0, "go", "ok", 1)]), [("go", "ok"), ("off", "ok")])
Box(3, [0], [(0, 'go', 'ok', 1), (0, 'off', 'ok', 2), (1, 'off', 'ok', 2), (2, 'go', 'ok', 2), (2, 'off', 'ok', 2)])
'''

STAGE_9 = '''
>>> from aheadbehind.judge import is_paper, is_true
>>> from aheadbehind.texts import read, text_of
>>> text_of(late)
'box 3\\nstart 0\\nstep 0 flip ok 1\\nstep 1 look head 2\\nstep 1 look tail 2\\n'
>>> claim = {"claim": "girth", "one": late, "other": early, "kind": "remembering", "number": 2}
>>> [is_true(claim), is_paper(claim, {0: [(0,)], 1: [(1, 2)], 2: [(3,)]}), is_true({"claim": "forward", "one": late, "other": early})]
[True, True, False]
>>> from aheadbehind.desk import Desk
>>> desk = Desk()
>>> desk.do_all("new late 2", "add late 0 flip ok 1", "new early 3", "add early 0 flip ok 2", "add early 2 look head 2", "stands late early", "stands early late", "girth guessing late early", "cut early 2 look head 2", "alike late early", "undo")
['ok', '1', 'ok', '1', '2', 'yes', 'no flip ok look head', '1', '1', 'yes', 'cut early 2 look head 2']
'''

STAGES = [
    (STAGE_1, 5), (STAGE_2, 4), (STAGE_3, 4), (STAGE_4, 5), (STAGE_5, 3), (STAGE_6, 6), (STAGE_7, 7), (STAGE_8, 7),
    (STAGE_9, 8),
]


class TestExamples(unittest.TestCase):
    def test_examples(self):
        names = {}
        for number, (stage, count) in enumerate(STAGES, 1):
            with self.subTest(stage=number):
                examples = doctest.DocTestParser().get_doctest(stage, {}, f"stage {number}", None, 0)
                # The names of a stage are used by the stages behind it.
                examples.globs = names
                said = []
                results = doctest.DocTestRunner(verbose=False).run(examples, out=said.append, clear_globs=False)
                self.assertEqual(results.failed, 0, "".join(said))
                self.assertEqual(results.attempted, count)

    def test_reprs_of_the_interface(self):
        box = Box(1, [0])
        self.assertEqual(repr(Box(2, [0], [(0, "go", "ok", 1)])), "Box(2, [0], [(0, 'go', 'ok', 1)])")
        self.assertEqual(repr(Matching(box, box, [(0, 0)])), "Matching([(0, 0)])")
        self.assertEqual(repr(Fan(box, box, {0: [(0,)]})), "Fan({0: [(0,)]})")
        self.assertEqual(repr(Muffled(2, [0], [], [(0, 1)])), "Muffled(2, [0], [], [(0, 1)])")
