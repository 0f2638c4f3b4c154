"""Editors (points 10 and 11)."""

import random
import unittest

from plain import WRONG_LETTERS, WRONG_NUMBERS, plain_keys, plain_letters, random_steps
from pastekeys.editor import Editor
from pastekeys.errors import (AlreadyOpen, InvalidLetter, InvalidOperation, InvalidPlace, InvalidStep,
                              TextError, TooLong)
from pastekeys.texts import Text

START = (("write", "ab"), ("paste", 0, 1, 2))
# 10 ** 18 letters in three steps.
LARGEST = (("write", "a"), ("paste", 0, 0, 10 ** 9 - 1), ("paste", 0, 10 ** 9 - 1, 10 ** 9 - 1))
NO_WORDS = ["", "a" * 21, "A", "a b", "a1", "\u00e4", None, True, 5, (), ("a",), [], ["a"]]
NO_OPERATIONS = [
    None, True, 0, 5, "", "write", (), [], {}, ("write",), ("paste",), ("retype",), ("write", "a", "b"),
    ("paste", 0, 0), ("paste", 0, 0, 1, 1), ("retype", 0), ("retype", 0, "a", 0), ["write", "a"],
    ["paste", 0, 0, 1], ["retype", 0, "a"], ("undo",), ("redo",), ("apply", ("write", "a")), ("Write", "a"),
    ("", "a"), (None, "a"), (0, 0, "a"), (True, 0, "a"), (["write"], "a"), (("write",), "a"), ("a",),
    (("write", "a"),), ("see", 0, "a"), ("retyped", 0, "a"), ("write ", "a"), ({}, "a"),
]


def state(editor):
    """All that can be seen of an editor; what can be redone is seen by doing it."""
    seen = [(editor.present_text.steps, editor.history, len(editor))]
    redone = 0
    while editor.redo():
        redone += 1
        seen.append((editor.present_text.steps, editor.history, len(editor)))
    for _ in range(redone):
        editor.undo()
    return seen


class Case(unittest.TestCase):
    def setUp(self):
        self.editor = Editor(*START)

    def fails(self, error, call, editor=None, **attributes):
        """The call raises exactly this error and changes no state."""
        editor = editor or self.editor
        before = state(editor)
        with self.assertRaises(error) as caught:
            call()
        self.assertIs(caught.exception.__class__, error)
        self.assertEqual(vars(caught.exception), attributes)
        self.assertEqual(state(editor), before)

    def reads(self, letters, editor=None):
        text = (editor or self.editor).present_text
        self.assertEqual("".join(text[place] for place in range(text.size)), letters)


class Steps(Case):
    def test_at_first(self):
        self.assertEqual(self.editor.present_text, Text(*START))
        self.assertEqual((self.editor.history, len(self.editor)), ([], 0))

    def test_without_steps(self):
        editor = Editor()
        self.assertEqual((editor.present_text, editor.history, len(editor)), (Text(), [], 0))
        self.assertEqual((editor.undo(), editor.redo()), (False, False))
        self.fails(InvalidPlace, lambda: editor.retype(0, "a"), editor)
        self.fails(InvalidStep, lambda: editor.paste(0, 0, 1), editor, index=0)
        self.assertEqual((editor.write("a"), editor.paste(0, 0, 1), editor.retype(1, "b")), (1, 2, 2))
        self.reads("bb", editor)

    def test_wrong_first_steps(self):
        for index, steps in ((0, [None]), (1, [("write", "a"), ("paste", 0, 1, 1)]),
                             (30, [("write", "a")] * 31), (0, [("retype", 0, "a")])):
            with self.assertRaises(InvalidStep) as caught:
                Editor(*steps)
            self.assertEqual(caught.exception.index, index)
        with self.assertRaises(TooLong):
            Editor(*LARGEST, ("write", "a"))

    def test_write_and_paste(self):
        editor = self.editor
        self.assertEqual([editor.write("c"), editor.paste(5, 6, 3), editor.write("z" * 20)], [7, 13, 33])
        self.reads("abababc" + "bc" * 3 + "z" * 20)
        self.assertEqual(editor.present_text.steps,
                         (*START, ("write", "c"), ("paste", 5, 6, 3), ("write", "z" * 20)))
        self.assertEqual(editor.history, [("write", "c"), ("paste", 5, 6, 3), ("write", "z" * 20)])
        self.assertEqual(len(editor), 3)

    def test_wrong_words(self):
        for word in NO_WORDS:
            self.fails(InvalidStep, lambda: self.editor.write(word), index=2)
        self.editor.write("c")
        self.fails(InvalidStep, lambda: self.editor.write("A"), index=3)

    def test_wrong_pastes(self):
        wrong = [(-1, 0, 1), (0, 6, 1), (6, 6, 1), (3, 2, 1), (0, -1, 1), (0, 0, 0), (0, 0, -1), (0, 0, 10 ** 9 + 1)]
        for value in WRONG_NUMBERS:
            wrong.extend([(value, 3, 1), (1, value, 1), (1, 3, value)])
        for first, last, times in wrong:
            self.fails(InvalidStep, lambda: self.editor.paste(first, last, times), index=2)
        self.assertEqual(self.editor.paste(0, 0, 10 ** 9), 10 ** 9 + 6)

    def test_number_of_steps(self):
        editor = Editor(*[("write", "a")] * 29)
        self.assertEqual(editor.write("b"), 30)
        self.fails(InvalidStep, lambda: editor.write("c"), editor, index=30)
        self.fails(InvalidStep, lambda: editor.paste(0, 0, 1), editor, index=30)
        # Keys can still be retyped, and an undone step makes room.
        self.assertEqual(editor.retype(29, "x"), 1)
        self.assertTrue(editor.undo() and editor.undo())
        self.assertEqual(editor.paste(0, 28, 2), 29 * 3)

    def test_index_counts_the_steps_of_the_text(self):
        self.editor.retype(0, "z")
        self.editor.retype(0, "y")
        self.fails(InvalidStep, lambda: self.editor.write(""), index=2)
        self.editor.write("c")
        self.editor.undo()
        self.fails(InvalidStep, lambda: self.editor.write(""), index=2)

    def test_largest_text(self):
        editor = Editor(*LARGEST[:2])
        self.assertEqual(editor.paste(*LARGEST[2][1:]), 10 ** 18)
        self.fails(TooLong, lambda: editor.write("a"), editor)
        self.fails(TooLong, lambda: editor.paste(0, 0, 1), editor)
        self.fails(InvalidStep, lambda: editor.write("A"), editor, index=3)
        self.fails(InvalidStep, lambda: editor.paste(0, 10 ** 18, 1), editor, index=3)
        self.assertEqual(editor.retype(10 ** 18 - 1, "b"), 10 ** 18)
        self.assertEqual(editor.retype(0, "b"), 0)

    def test_wrong_before_too_long(self):
        editor = Editor(*LARGEST)
        self.fails(InvalidStep, lambda: editor.paste(0, 0, 0), editor, index=3)
        full = Editor(*[("write", "a")] * 28, ("paste", 0, 0, 10 ** 9), ("paste", 0, 10 ** 9 - 1, 10 ** 8))
        self.fails(InvalidStep, lambda: full.paste(0, 10 ** 17, 10 ** 9), full, index=30)


class Retyping(Case):
    def test_places_and_letters(self):
        self.assertEqual(self.editor.retype(4, "x"), 3)
        self.reads("xbxbxb")
        self.assertEqual(self.editor.retype(1, "x"), 3)
        self.reads("xxxxxx")
        self.assertEqual(self.editor.history, [("retype", 4, "x"), ("retype", 1, "x")])
        self.assertEqual(self.editor.present_text.steps, (("write", "xx"), ("paste", 0, 1, 2)))

    def test_the_same_letter(self):
        self.assertEqual(self.editor.retype(4, "a"), 0)
        self.assertEqual((self.editor.history, len(self.editor)), ([("retype", 4, "a")], 1))
        self.assertEqual(self.editor.present_text, Text(*START))
        self.assertTrue(self.editor.undo())
        self.assertEqual(len(self.editor), 0)
        self.editor.write("c")
        self.editor.undo()
        self.editor.retype(0, "a")
        self.assertFalse(self.editor.redo())

    def test_wrong_places(self):
        for place in [-1, 6, 7, 10 ** 18, *WRONG_NUMBERS]:
            self.fails(InvalidPlace, lambda: self.editor.retype(place, "x"))

    def test_wrong_letters(self):
        for letter in WRONG_LETTERS:
            self.fails(InvalidLetter, lambda: self.editor.retype(5, letter))

    def test_place_is_looked_at_first(self):
        for place, letter in ((6, "A"), (None, None), (-1, ""), (True, True)):
            self.fails(InvalidPlace, lambda: self.editor.retype(place, letter))

    def test_against_the_written_out_text(self):
        choice = random.Random(11)
        for _ in range(200):
            steps = random_steps(choice, 6, 60)
            if not steps:
                continue
            editor = Editor(*steps)
            keys, letters = plain_keys(steps), plain_letters(steps)
            place, letter = choice.randrange(len(keys)), choice.choice("abcd")
            after = "".join(letter if key == keys[place] else old for key, old in zip(keys, letters))
            changed = sum(old != new for old, new in zip(letters, after))
            self.assertEqual(editor.retype(place, letter), changed)
            self.reads(after, editor)
            self.assertEqual(editor.present_text, Text(*steps).retyped(keys[place], letter))


class UndoAndRedo(Case):
    def test_nothing_to_do(self):
        self.assertIs(self.editor.undo(), False)
        self.assertIs(self.editor.redo(), False)
        self.editor.write("c")
        self.assertIs(self.editor.redo(), False)
        self.assertEqual(self.editor.history, [("write", "c")])

    def test_one_after_another(self):
        editor = self.editor
        editor.apply(("write", "c"), ("retype", 6, "d"), ("paste", 6, 6, 2))
        self.reads("abababddd")
        self.assertIs(editor.undo(), True)
        self.reads("abababd")
        self.assertEqual((editor.history, len(editor)), ([("write", "c"), ("retype", 6, "d")], 2))
        editor.undo()
        self.reads("abababc")
        editor.undo()
        self.reads("ababab")
        self.assertIs(editor.undo(), False)
        self.assertEqual(editor.history, [])
        self.assertIs(editor.redo(), True)
        self.reads("abababc")
        editor.redo()
        self.reads("abababd")
        editor.redo()
        self.reads("abababddd")
        self.assertIs(editor.redo(), False)
        self.assertEqual(len(editor), 3)

    def test_a_new_operation_ends_redoing(self):
        for operation in (("write", "x"), ("paste", 0, 0, 1), ("retype", 0, "x"), ("retype", 0, "a")):
            editor = Editor(*START)
            editor.apply(("write", "c"), ("write", "d"))
            editor.undo()
            getattr(editor, operation[0])(*operation[1:])
            self.assertFalse(editor.redo())
            self.assertEqual(editor.history, [("write", "c"), operation])
            editor.undo()
            editor.undo()
            self.assertTrue(editor.redo() and editor.redo())
            self.assertFalse(editor.redo())
            self.assertEqual(editor.history, [("write", "c"), operation])

    def test_a_failing_operation_does_not(self):
        self.editor.apply(("write", "c"))
        self.editor.undo()
        self.fails(InvalidStep, lambda: self.editor.write("A"), index=2)
        self.fails(InvalidPlace, lambda: self.editor.retype(6, "a"))
        self.fails(InvalidPlace, lambda: self.editor.apply(("write", "x"), ("retype", 7, "a")))
        self.fails(InvalidOperation, lambda: self.editor.apply(None), index=0)
        self.assertTrue(self.editor.redo())
        self.assertEqual(self.editor.history, [("write", "c")])

    def test_neither_do_questions(self):
        self.editor.write("c")
        self.editor.undo()
        self.editor.is_possible(("write", "x"))
        list(self.editor.sizes_after(("write", "x")))
        self.assertTrue(self.editor.redo())


class Apply(Case):
    def test_results(self):
        self.assertEqual(self.editor.apply(("retype", 1, "c"), ("write", "xy"), ("paste", 6, 7, 5),
                                           ("retype", 9, "y"), ("retype", 8, "z")), [3, 8, 18, 0, 6])
        self.reads("acacac" + "zy" * 6)
        self.assertEqual(len(self.editor), 5)
        self.assertEqual(self.editor.history[3:], [("retype", 9, "y"), ("retype", 8, "z")])

    def test_undo_takes_back_one(self):
        self.editor.apply(("write", "c"), ("write", "d"))
        self.assertTrue(self.editor.undo())
        self.assertEqual(self.editor.history, [("write", "c")])
        self.reads("abababc")

    def test_without_operations(self):
        self.editor.apply(("write", "c"), ("write", "d"))
        self.editor.undo()
        self.assertEqual(self.editor.apply(), [])
        self.assertEqual(self.editor.history, [("write", "c")])
        self.assertTrue(self.editor.redo())

    def test_no_operations(self):
        for wrong in NO_OPERATIONS:
            self.fails(InvalidOperation, lambda: self.editor.apply(wrong), index=0)
            self.fails(InvalidOperation, lambda: self.editor.apply(("write", "c"), wrong, wrong), index=1)

    def test_form_before_execution(self):
        # The first operation cannot be executed, but the form of all is looked at before.
        self.fails(InvalidOperation, lambda: self.editor.apply(("write", "A"), ("retype", 9, "a"), None), index=2)

    def test_wrong_arguments_are_operations(self):
        self.fails(InvalidStep, lambda: self.editor.apply(("write", None)), index=2)
        self.fails(InvalidStep, lambda: self.editor.apply(("paste", None, (), [])), index=2)
        self.fails(InvalidPlace, lambda: self.editor.apply(("retype", None, None)))
        self.fails(InvalidLetter, lambda: self.editor.apply(("retype", 0, None)))

    def test_all_or_nothing(self):
        self.fails(InvalidStep, lambda: self.editor.apply(("write", "c"), ("write", "d"), ("write", "")), index=4)
        self.fails(InvalidPlace, lambda: self.editor.apply(("retype", 0, "z"), ("retype", 6, "z")))
        self.fails(InvalidLetter, lambda: self.editor.apply(("write", "c"), ("retype", 6, "Z")))
        self.fails(TooLong, lambda: self.editor.apply(("paste", 0, 0, 10 ** 9), ("paste", 0, 10 ** 9, 10 ** 9)))
        self.fails(InvalidStep, lambda: self.editor.apply(*[("write", "a")] * 29), index=30)
        self.assertEqual(self.editor.apply(*[("write", "a")] * 28), list(range(7, 35)))

    def test_arguments_are_not_kept(self):
        operations = [("write", "c"), ("retype", 0, "z")]
        self.editor.apply(*operations)
        operations.clear()
        self.assertEqual(self.editor.history, [("write", "c"), ("retype", 0, "z")])

    def test_returned_lists_may_be_changed(self):
        self.editor.apply(("write", "c"), ("write", "d"))
        self.editor.apply(("write", "e")).clear()
        history = self.editor.history
        history.clear()
        history.append(None)
        self.assertEqual(len(self.editor), 3)
        self.assertEqual(self.editor.history, [("write", "c"), ("write", "d"), ("write", "e")])


class Replay(Case):
    def test_steps_and_operations(self):
        operations = [("write", "c"), ("retype", 0, "z"), ("paste", 6, 6, 2)]
        editor = Editor.replay(START, operations)
        self.reads("zbzbzbccc", editor)
        self.assertEqual(editor.history, operations)
        self.assertIsInstance(editor, Editor)
        self.assertEqual((editor.undo(), editor.undo(), editor.undo(), editor.undo()), (True, True, True, False))
        self.assertEqual(editor.present_text, Text(*START))

    def test_nothing(self):
        editor = Editor.replay((), [])
        self.assertEqual((editor.present_text, editor.history), (Text(), []))

    def test_arguments_stay(self):
        operations = [("write", "c")]
        editor = Editor.replay(START, operations)
        editor.write("d")
        self.assertEqual(operations, [("write", "c")])
        operations.clear()
        self.assertEqual(editor.history, [("write", "c"), ("write", "d")])

    def replay_fails(self, error, steps, operations, **attributes):
        with self.assertRaises(error) as caught:
            Editor.replay(steps, operations)
        self.assertIs(caught.exception.__class__, error)
        self.assertEqual(vars(caught.exception), attributes)

    def test_errors_of_both(self):
        self.replay_fails(InvalidStep, (("write", "a"), None), [], index=1)
        self.replay_fails(TooLong, (*LARGEST, ("write", "a")), [])
        self.replay_fails(InvalidOperation, START, [("write", "a"), ("write",)], index=1)
        self.replay_fails(InvalidStep, START, [("write", "a"), ("write", "")], index=3)
        self.replay_fails(TooLong, LARGEST, [("retype", 0, "z"), ("write", "a")])
        self.replay_fails(InvalidPlace, (), [("retype", 0, "z")])
        self.replay_fails(InvalidLetter, START, [("retype", 0, "zz")])

    def test_steps_are_looked_at_first(self):
        self.replay_fails(InvalidStep, (("write", "A"),), [None], index=0)
        self.replay_fails(TooLong, (*LARGEST, ("write", "a")), [None])
        self.replay_fails(InvalidOperation, START, [("write", "A"), None], index=1)

    def test_no_lists(self):
        for wrong in (None, True, 5, "", "ab"):
            self.replay_fails(InvalidStep, wrong, [], index=0)
            self.replay_fails(InvalidOperation, START, wrong, index=0)


class Questions(Case):
    def test_sizes(self):
        operations = (("write", "c"), ("retype", 0, "z"), ("paste", 0, 6, 10), ("write", "zz"))
        before = state(self.editor)
        self.assertEqual(list(self.editor.sizes_after(*operations)), [7, 7, 77, 79])
        self.assertEqual(list(self.editor.sizes_after(*operations)), [7, 7, 77, 79])
        self.assertEqual(state(self.editor), before)
        self.editor.write("q")
        self.assertEqual(list(self.editor.sizes_after(*operations)), [8, 8, 78, 80])
        self.assertEqual(list(self.editor.sizes_after()), [])

    def test_editor_stays_between_the_values(self):
        before = state(self.editor)
        sizes = self.editor.sizes_after(("write", "c"), ("write", "d"), ("write", "e"))
        for size in (7, 8, 9):
            self.assertEqual(next(sizes), size)
            self.assertEqual(state(self.editor), before)
        self.assertEqual(list(sizes), [])

    def test_form_at_first(self):
        for wrong in NO_OPERATIONS:
            sizes = self.editor.sizes_after(("write", "c"), ("write", "A"), wrong)
            self.fails(InvalidOperation, lambda: next(sizes), index=2)

    def test_nothing_is_checked_before_the_first_value(self):
        self.editor.sizes_after(None)
        self.editor.sizes_after(("write", "A"))

    def test_errors_where_they_would_be(self):
        size = 10 ** 9 + 7
        for error, wrong, attributes in (
                (InvalidStep, ("write", ""), {"index": 4}), (InvalidPlace, ("retype", size, "a"), {}),
                (InvalidLetter, ("retype", 7, "A"), {}), (TooLong, ("paste", 0, 10 ** 9, 10 ** 9), {})):
            sizes = self.editor.sizes_after(("write", "c"), ("paste", 0, 0, 10 ** 9), wrong)
            self.assertEqual((next(sizes), next(sizes)), (7, size))
            self.fails(error, lambda: next(sizes), **attributes)

    def test_is_possible(self):
        before = state(self.editor)
        possible = [(), (("write", "c"),), (("write", "c"), ("paste", 6, 6, 1), ("retype", 7, "z")),
                    tuple([("write", "a")] * 28)]
        impossible = [(("write", ""),), (("paste", 6, 6, 1),), (("write", "c"), ("retype", 7, "z")),
                      (("retype", 0, "Z"),), (("paste", 0, 0, 10 ** 9), ("paste", 0, 10 ** 9, 10 ** 9)),
                      tuple([("write", "a")] * 29)]
        for operations in possible:
            self.assertIs(self.editor.is_possible(*operations), True)
        for operations in impossible:
            self.assertIs(self.editor.is_possible(*operations), False)
        for wrong in NO_OPERATIONS:
            self.assertIs(self.editor.is_possible(("write", "c"), wrong), False)
        self.assertEqual(state(self.editor), before)


class Blocks(Case):
    def prepared(self):
        """An editor with one operation in effect and two undone ones."""
        editor = Editor(*START)
        editor.apply(("write", "c"), ("retype", 0, "x"), ("write", "d"))
        editor.undo()
        editor.undo()
        return editor

    def test_a_block_restores_everything(self):
        for act in (lambda editor: editor.write("z"), lambda editor: editor.retype(0, "z"),
                    lambda editor: editor.undo(), lambda editor: editor.redo(),
                    lambda editor: editor.apply(("write", "z"), ("write", "y")), lambda editor: None,
                    lambda editor: [editor.undo(), editor.undo(), editor.write("q"), editor.undo()]):
            editor = self.prepared()
            before = state(editor)
            with editor:
                act(editor)
            self.assertEqual(state(editor), before)
            self.assertEqual(before[0][1], [("write", "c")])
            self.assertEqual(len(before), 3)

    def test_what_stands_within_a_block(self):
        editor = self.prepared()
        with editor as held:
            self.assertIs(held, editor)
            self.assertEqual(state(editor), state(self.prepared()))
            editor.write("z")
            self.assertEqual(editor.history, [("write", "c"), ("write", "z")])
        self.assertEqual(editor.history, [("write", "c")])

    def test_after_an_error(self):
        editor = self.prepared()
        before = state(editor)
        for error, call in ((InvalidStep, lambda: editor.write("")), (KeyError, lambda: {}[0]),
                            (InvalidOperation, lambda: editor.apply(None))):
            with self.assertRaises(error):
                with editor:
                    editor.write("z")
                    editor.undo()
                    editor.write("y")
                    call()
            self.assertEqual(state(editor), before)
        with editor:
            self.assertEqual(editor.write("z"), 8)

    def test_one_after_another(self):
        editor = self.prepared()
        before = state(editor)
        for _ in range(3):
            with editor:
                editor.write("z")
            self.assertEqual(state(editor), before)
        editor.write("y")
        self.assertEqual(editor.history, [("write", "c"), ("write", "y")])

    def test_a_block_within_a_block(self):
        editor = self.prepared()
        before = state(editor)
        with editor:
            editor.write("z")
            within = state(editor)
            with self.assertRaises(AlreadyOpen):
                with editor:
                    self.fail("the block must not be entered")
            self.assertEqual(state(editor), within)
            # The outer block is still open.
            with self.assertRaises(AlreadyOpen):
                with editor:
                    self.fail("the block must not be entered")
        self.assertEqual(state(editor), before)
        with self.assertRaises(AlreadyOpen):
            with editor:
                editor.write("z")
                with editor:
                    self.fail("the block must not be entered")
        self.assertEqual(state(editor), before)
        with editor:
            editor.write("z")
        self.assertEqual(state(editor), before)

    def test_two_editors(self):
        one, other = self.prepared(), self.prepared()
        with one:
            with other:
                one.write("y")
                other.write("zz")
            self.assertEqual((one.present_text.size, other.present_text.size), (8, 7))
        self.assertEqual((one.present_text.size, other.present_text.size), (7, 7))

    def test_editors_do_not_share(self):
        one, other = self.prepared(), self.prepared()
        one.write("zz")
        self.assertEqual(other.history, [("write", "c")])
        self.assertTrue(other.redo())


class Model:
    """An editor that makes its text anew from its first steps for each look."""

    def __init__(self, steps):
        self.first, self.done, self.undone = list(steps), [], []

    def steps(self, operations):
        steps = list(self.first)
        for operation in operations:
            if operation[0] != "retype":
                steps.append(operation)
                continue
            key, typed = plain_keys(steps)[operation[1]], 0
            for at, step in enumerate(steps):
                if step[0] == "write":
                    if typed <= key < typed + len(step[1]):
                        word = step[1][:key - typed] + operation[2] + step[1][key - typed + 1:]
                        steps[at] = ("write", word)
                    typed += len(step[1])
        return steps


class AgainstTheModel(Case):
    def operation(self, choice, size):
        kind = choice.choice(["write", "paste", "retype", "retype"])
        if kind == "write":
            return (kind, "".join(choice.choice("abc") for _ in range(choice.randint(0, 3))))
        if kind == "paste":
            return (kind, choice.randint(0, size), choice.randint(0, size), choice.randint(1, 2))
        return (kind, choice.randint(0, size), choice.choice("abcX"))

    def act(self, choice, editor, model):
        size = editor.present_text.size
        kind = choice.random()
        if kind < 0.25:
            self.assertEqual(editor.undo(), bool(model.done))
            if model.done:
                model.undone.append(model.done.pop())
        elif kind < 0.45:
            self.assertEqual(editor.redo(), bool(model.undone))
            if model.undone:
                model.done.append(model.undone.pop())
        elif size < 200:
            operations = [self.operation(choice, size) for _ in range(choice.randint(1, 2))]
            possible = editor.is_possible(*operations)
            try:
                results = editor.apply(*operations)
            except TextError:
                self.assertFalse(possible)
                return
            self.assertTrue(possible)
            self.assertEqual(len(results), len(operations))
            model.done.extend(operations)
            model.undone.clear()

    def test_many_runs(self):
        choice = random.Random(12)
        for _ in range(60):
            steps = random_steps(choice, 4, 20)
            editor, model = Editor(*steps), Model(steps)
            for _ in range(30):
                self.act(choice, editor, model)
                self.assertEqual(list(editor.present_text.steps), model.steps(model.done))
                self.assertEqual((editor.history, len(editor)), (model.done, len(model.done)))
                replayed = Editor.replay(tuple(steps), editor.history)
                self.assertEqual(replayed.present_text, editor.present_text)


if __name__ == "__main__":
    unittest.main()
