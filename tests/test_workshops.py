"""[60], [62], [64] to [66]: workshops, edits, attempts and trials."""

import itertools
import random

from sparkboard import errors
from sparkboard.boards import Board, board_for
from sparkboard.circuits import run
from sparkboard.errors import BadLine, BadName, BadRow, NoName, NothingToRedo, NothingToUndo, NotKept, TakenName, Unlike
from sparkboard.texts import Spoken, spoken_of, text_of
from sparkboard.workshops import Workshop
from tests.asking import Asking
from tests.plain import Strange, only_tuples, plain_run, rows_of_bits, strange_values
from tests.plain_boards import plain_shown
from tests.plain_shops import SHAPES, PlainShop, Refused, is_witness, rows_of_witness, text_for
from tests.test_boards import no_rows_of

NO_NAMES = [
    "", "A", "1a", "_a", "a b", "a-b", "a234567890123", "input", "same", "as", "always", "one", "end", " a", "a ", "a\n",
]


def told_by(shop):
    """All that a workshop keeps, as it tells it."""
    return shop.text(), shop.names(), shop.promises()


def texts(*pairs):
    return "".join(text_for(name, shape) for name, shape in pairs)


class Shops(Asking):
    def assert_kept(self, shop, pairs, promises=()):
        self.assertEqual(told_by(shop), (texts(*pairs), tuple(name for name, _ in pairs), tuple(promises)))
        for name, shape in pairs:
            self.assertEqual(text_of(shop.get(name)), text_for(name, shape))

    def assert_refused(self, shop, kind, fields, call, *arguments):
        """An error, behind which all is as it was."""
        before = told_by(shop)
        self.assert_error(kind, fields, call, *arguments)
        self.assertEqual(told_by(shop), before)

    def assert_not_kept(self, shop, promise, rows, call, *arguments):
        """A NotKept with a witness of these rows, behind which all is as it was."""
        before = told_by(shop)
        with self.assertRaises(NotKept) as caught:
            call(*arguments)
        self.assertEqual(set(vars(caught.exception)), {"promise", "witness"})
        self.assertEqual(caught.exception.promise, promise)
        self.assertEqual(rows_of_witness(promise.split(), caught.exception.witness), rows)
        self.assertEqual(told_by(shop), before)


class Keeping(Shops):
    def test_a_new_one(self):
        for shop in (Workshop(), Workshop(""), Workshop(text=" \n  \n")):
            self.assertEqual(told_by(shop), ("", (), ()))
            self.assert_error(NothingToUndo, (), shop.undo)
            self.assert_error(NothingToRedo, (), shop.redo)
        shop = Workshop(text=texts(("b", "wire"), ("a", "toggle")))
        self.assert_kept(shop, (("b", "wire"), ("a", "toggle")))
        self.assert_error(NothingToUndo, (), shop.undo)
        self.assertTrue(only_tuples(told_by(shop)))

    def test_texts_are_told_anew(self):
        shop = Workshop("circuit   a \n input  i\n\n  output i   i\nend")
        self.assertEqual(shop.text(), "circuit a\n  input i\n  output i i\nend\n")

    def test_errors_of_texts(self):
        shop = Workshop(text_for("a", "wire"))
        for text in ("circuit", "circuit a\nend\n", text_for("b", "wire") + "circuit b", texts(("c", "wire"), ("c", "wire")), "x"):
            try:
                spoken_of(text)
            except BadLine as why:
                fields = (why.line, why.column)
            self.assert_error(BadLine, fields, Workshop, text)
            self.assert_refused(shop, BadLine, fields, shop.put, text)
        for value in strange_values():
            if not isinstance(value, str):
                self.assert_error(BadLine, (0, 0), Workshop, value)
                self.assert_refused(shop, BadLine, (0, 0), shop.put, value)

    def test_put(self):
        shop = Workshop(texts(("a", "wire"), ("b", "wire"), ("c", "wire")))
        self.assertIsNone(shop.put(texts(("d", "two"), ("b", "toggle"), ("e", "late"), ("a", "still"))))
        self.assert_kept(shop, (("a", "still"), ("b", "toggle"), ("c", "wire"), ("d", "two"), ("e", "late")))
        shop.put("")
        self.assert_kept(shop, (("a", "still"), ("b", "toggle"), ("c", "wire"), ("d", "two"), ("e", "late")))

    def test_get(self):
        shop = Workshop(texts(("a", "shift")))
        told = shop.get("a")
        self.assertIs(told.__class__, Spoken)
        self.assertEqual((told.name, told.names), ("a", SHAPES["shift"][2]))
        self.assertEqual(told.circuit, spoken_of(text_for("a", "shift"))[0].circuit)

    def test_no_name(self):
        shop = Workshop(texts(("a", "wire")))
        for value in strange_values() + ["", "b", "A", " a", "a ", "aa", b"a", ("a",), ["a"], {"a": 1}, Strange(), shop]:
            self.assert_refused(shop, NoName, (value,), shop.drop, value)
            self.assert_refused(shop, NoName, (value,), shop.get, value)
            self.assert_refused(shop, NoName, (value,), shop.board, value)
            self.assert_refused(shop, NoName, (value,), shop.show, value, ((0,),))
            self.assert_refused(shop, NoName, (value,), shop.show, value, None)
            self.assert_refused(shop, NoName, (value,), shop.rename, value, "b")

    def test_drop(self):
        shop = Workshop(texts(("a", "wire"), ("b", "wire"), ("c", "wire"), ("o", "late")))
        for text in ("a same as b", "b same as c", "o always o", "c same as a", "o same as o"):
            shop.keep(text)
        self.assertIsNone(shop.drop("b"))
        self.assert_kept(shop, (("a", "wire"), ("c", "wire"), ("o", "late")), ("o always o", "c same as a", "o same as o"))
        shop.drop("o")
        self.assert_kept(shop, (("a", "wire"), ("c", "wire")), ("c same as a",))
        shop.undo()
        shop.undo()
        self.assertEqual(len(shop.promises()), 5)

    def test_a_signal_of_that_name_is_no_circuit(self):
        """A promise names it as a signal alone: it stays, and stays as it is."""
        shop = Workshop(texts(("late", "late"), ("o", "wire")))
        shop.keep("late always o")
        shop.rename("o", "p")
        self.assert_kept(shop, (("late", "late"), ("p", "wire")), ("late always o",))
        shop.undo()
        shop.drop("o")
        self.assert_kept(shop, (("late", "late"),), ("late always o",))

    def test_rename(self):
        shop = Workshop(texts(("a", "wire"), ("b", "twice"), ("late", "late")))
        for text in ("a same as b", "b same as b", "b same as a", "late always o"):
            shop.keep(text)
        self.assertIsNone(shop.rename("b", "b2"))
        self.assert_kept(
            shop, (("a", "wire"), ("b2", "twice"), ("late", "late")),
            ("a same as b2", "b2 same as b2", "b2 same as a", "late always o"),
        )
        shop.rename("late", "o")
        self.assertEqual(shop.promises()[3], "o always o")
        self.assertEqual(shop.kept("o always o"), (True, None))

    def test_rename_errors(self):
        shop = Workshop(texts(("a", "wire"), ("b", "wire")))
        for new in [value for value in strange_values() if not isinstance(value, str)] + NO_NAMES:
            self.assert_refused(shop, BadName, (new,), shop.rename, "a", new)
            self.assert_refused(shop, BadName, (new,), shop.rename, "none", new)
            self.assert_refused(shop, BadName, (new,), shop.rename, None, new)
        self.assert_refused(shop, NoName, ("none",), shop.rename, "none", "a")
        self.assert_refused(shop, TakenName, ("b",), shop.rename, "a", "b")
        self.assert_refused(shop, TakenName, ("a",), shop.rename, "a", "a")
        self.assert_error(NothingToUndo, (), shop.undo)

    def test_keep_and_release(self):
        shop = Workshop(texts(("a", "wire"), ("b", "twice"), ("late", "late")))
        self.assertIsNone(shop.keep("  a   same as  b "))
        shop.keep("late always o")
        self.assertEqual(shop.promises(), ("a same as b", "late always o"))
        shop.keep("a same  as b")
        self.assertEqual(shop.promises(), ("a same as b", "late always o"))
        self.assertIsNone(shop.release(" a same as   b"))
        self.assertEqual(shop.promises(), ("late always o",))
        shop.undo()
        shop.undo()
        shop.undo()
        self.assertEqual(shop.promises(), ())
        self.assert_error(NothingToUndo, (), shop.undo)

    def test_release_of_what_is_not_made(self):
        shop = Workshop(texts(("a", "wire"), ("b", "twice")))
        shop.keep("a same as b")
        for value in strange_values() + [
            "b same as a", "", " ", "a", "asameasb", "a same as b c", "a same as\nb", "a\tsame as b", b"a same as b", ["a same as b"],
            ("a", "same", "as", "b"), "a same as B", "!", Strange(),
        ]:
            self.assert_refused(shop, NoName, (value,), shop.release, value)
        shop.release("a same as b")
        self.assert_refused(shop, NoName, ("a same as b",), shop.release, "a same as b")


class Boards(Shops):
    def test_board(self):
        shop = Workshop(texts(("a", "toggle"), ("b", "still")))
        for name in ("a", "b"):
            told = shop.board(name)
            self.assertIs(told.__class__, Board)
            self.assertTrue(told == board_for(shop.get(name).circuit))

    def test_show(self):
        """The fact of [62]."""
        for number, (shape, (_, plan, _)) in enumerate(SHAPES.items()):
            shop = Workshop(text_for("a", shape))
            rows = rows_of_bits(number, plan[0], 6)
            told = shop.show("a", [list(row) for row in rows])
            self.assertEqual(told, plain_run(plan, plan[1], rows)[0])
            self.assertTrue(only_tuples(told))
            self.assertEqual(shop.show("a", ()), ())
            if number % 3 == 0:
                self.assertEqual(plain_shown(shop.board("a"), rows[:3]), told[:3])

    def test_wrong_rows(self):
        shop = Workshop(text_for("a", "two"))
        for rows in no_rows_of(2):
            self.assert_refused(shop, BadRow, (rows,), shop.show, "a", rows)


class Edits(Shops):
    def test_undo_and_redo(self):
        shop = Workshop(texts(("a", "wire")))
        stands = [told_by(shop)]
        for edit in (
            lambda: shop.put(texts(("b", "twice"))), lambda: shop.keep("a same as b"), lambda: shop.rename("a", "c"),
            lambda: shop.release("c same as b"), lambda: shop.drop("c"), lambda: shop.put(texts(("b", "late"), ("d", "two"))),
        ):
            self.assertIsNone(edit())
            stands.append(told_by(shop))
        self.assertEqual(len(set(stands)), 7)
        for _ in range(2):
            for stand in stands[-2::-1]:
                self.assertIsNone(shop.undo())
                self.assertEqual(told_by(shop), stand)
            self.assert_refused(shop, NothingToUndo, (), shop.undo)
            for stand in stands[1:]:
                self.assertIsNone(shop.redo())
                self.assertEqual(told_by(shop), stand)
            self.assert_refused(shop, NothingToRedo, (), shop.redo)
        shop.undo()
        shop.undo()
        shop.put(texts(("e", "wire")))
        self.assert_refused(shop, NothingToRedo, (), shop.redo)
        shop.undo()
        self.assertEqual(told_by(shop), stands[4])

    def test_what_changes_nothing_is_no_edit(self):
        shop = Workshop(texts(("a", "wire"), ("b", "twice")))
        shop.keep("a same as b")
        shop.put(texts(("c", "two")))
        shop.undo()
        spaced = "circuit a\n\n   input   i\noutput i\n  end"
        for call in (lambda: shop.put(""), lambda: shop.put(spaced), lambda: shop.keep(" a same as  b"),
                     lambda: shop.put(texts(("b", "twice"), ("a", "wire"))), lambda: shop.attempt(lambda one: None)):
            self.assertIsNone(call())
        shop.redo()
        self.assert_kept(shop, (("a", "wire"), ("b", "twice"), ("c", "two")), ("a same as b",))
        shop.undo()
        shop.undo()
        self.assert_refused(shop, NothingToUndo, (), shop.undo)

    def test_a_call_that_raises_is_no_edit(self):
        shop = Workshop(texts(("a", "wire"), ("b", "twice")))
        shop.keep("a same as b")
        shop.undo()
        for kind, fields, call, argument in (
            (BadLine, (1, 1), shop.put, "x"), (NoName, ("x",), shop.drop, "x"), (NoName, ("x",), shop.release, "x"),
            (NoName, ("x",), shop.keep, "x same as a"),
        ):
            self.assert_refused(shop, kind, fields, call, argument)
        shop.redo()
        self.assertEqual(shop.promises(), ("a same as b",))
        self.assert_not_kept(shop, "a same as b", ((0,),), shop.put, text_for("a", "inverse"))
        self.assert_refused(shop, NothingToRedo, (), shop.redo)
        shop.undo()
        self.assertEqual(shop.promises(), ())

    def test_promises_are_looked_at_behind_edits(self):
        shop = Workshop(texts(("a", "wire"), ("b", "twice"), ("c", "late")))
        for text in ("a same as b", "c always o", "a same as a"):
            shop.keep(text)
        self.assert_not_kept(shop, "a same as b", ((0,),), shop.put, text_for("b", "inverse"))
        self.assert_refused(shop, Unlike, ("sizes",), shop.put, text_for("b", "two"))
        self.assert_refused(shop, NoName, ("o",), shop.put, text_for("c", "wire"))
        # The first promise counts, and of each one first what keeps it from being asked.
        self.assert_refused(shop, NoName, ("o",), shop.put, texts(("c", "wire"), ("a", "two"), ("b", "two")))
        self.assert_refused(shop, Unlike, ("sizes",), shop.put, texts(("c", "wire"), ("a", "two")))
        self.assert_not_kept(shop, "a same as b", ((0,),), shop.put, texts(("c", "wire"), ("a", "inverse")))
        shop.put(texts(("a", "inverse"), ("b", "inverse")))
        self.assertEqual(shop.kept("a same as b"), (True, None))

    def test_an_always_that_an_edit_breaks(self):
        """Its witness is the row of rows, of an edit, an attempt and a trial."""
        broken = "circuit a\n  input i\n  reg r = 1\n  next r = i\n  output r\nend\n"
        shop = Workshop(broken.replace("next r = i", "next r = r") + text_for("b", "wire"))
        shop.keep("a always r")
        shop.keep("b same as b")
        lot = [rows for rows in itertools.product(((0,), (1,)), repeat=2) if rows[0] == (0,)]
        for call, argument in (
            (shop.put, broken), (shop.attempt, lambda one: one.put(broken)), (shop.trial, lambda one: one.put(broken)),
        ):
            before = told_by(shop)
            with self.assertRaises(NotKept) as caught:
                call(argument)
            self.assertEqual(caught.exception.promise, "a always r")
            self.assertIn(caught.exception.witness, lot)
            self.assertEqual(told_by(shop), before)

    def test_old_stands_do_not_change(self):
        shop = Workshop(texts(("a", "wire")))
        told = shop.get("a")
        names, promises = shop.names(), shop.promises()
        shop.put(texts(("a", "two"), ("b", "two")))
        shop.rename("a", "c")
        self.assertEqual((names, promises, text_of(told)), (("a",), (), text_for("a", "wire")))
        shop.undo()
        shop.undo()
        self.assertEqual(text_of(shop.get("a")), text_for("a", "wire"))


class Attempts(Shops):
    def setUp(self):
        self.shop = Workshop(texts(("a", "wire"), ("b", "twice")))
        self.shop.keep("a same as b")

    def test_all_edits_are_one(self):
        def action(shop):
            self.assertIs(shop, self.shop)
            shop.put(texts(("c", "two")))
            shop.drop("a")
            shop.rename("b", "d")
            return [1, "told"]

        self.assertEqual(self.shop.attempt(action), [1, "told"])
        self.assert_kept(self.shop, (("d", "twice"), ("c", "two")))
        self.shop.undo()
        self.assert_kept(self.shop, (("a", "wire"), ("b", "twice")), ("a same as b",))
        self.shop.redo()
        self.assert_kept(self.shop, (("d", "twice"), ("c", "two")))
        self.assert_refused(self.shop, NothingToRedo, (), self.shop.redo)

    def test_a_promise_broken_on_the_way(self):
        def action(shop):
            shop.put(text_for("a", "inverse"))
            is_kept, parting = shop.kept("a same as b")
            self.assertEqual((is_kept, rows_of_witness("a same as b".split(), parting)), (False, ((0,),)))
            shop.put(text_for("b", "two"))
            self.assert_error(Unlike, ("sizes",), shop.kept, "a same as b")
            shop.put(text_for("b", "inverse"))
            shop.keep("b same as a")

        self.assertIsNone(self.shop.attempt(action))
        self.assert_kept(self.shop, (("a", "inverse"), ("b", "inverse")), ("a same as b", "b same as a"))

    def test_a_promise_broken_at_the_end(self):
        for call in (self.shop.attempt, self.shop.trial):
            self.assert_not_kept(
                self.shop, "a same as b", ((0,),), call, lambda shop: shop.put(text_for("a", "inverse")),
            )
            self.assert_refused(self.shop, Unlike, ("sizes",), call, lambda shop: shop.put(text_for("a", "two")))
            # Promises that are made, renamed and broken within are found at the end, by their words of then.
            self.assert_not_kept(
                self.shop, "c same as b", ((0,),), call,
                lambda shop: (shop.rename("a", "c"), shop.put(text_for("c", "inverse"))),
            )
            self.assert_not_kept(
                self.shop, "d same as a", ((0,),), call,
                lambda shop: (shop.put(text_for("d", "inverse")), shop.keep("d same as a")),
            )
        self.shop.undo()
        self.assertEqual(self.shop.promises(), ())
        self.assert_refused(self.shop, NothingToUndo, (), self.shop.undo)

    def test_a_promise_made_ahead_of_being_kept(self):
        def action(shop):
            shop.keep("a same as c")
            self.assertEqual(shop.promises(), ("a same as b", "a same as c"))
            shop.put(text_for("c", "wire"))

        self.shop.put(text_for("c", "inverse"))
        self.shop.attempt(action)
        self.assertEqual(self.shop.promises(), ("a same as b", "a same as c"))
        for text, kind, fields in (
            ("a same as !", errors.BadText, (11,)), ("a same as d", NoName, ("d",)), ("a always k", NoName, ("k",)),
        ):
            self.assert_refused(self.shop, kind, fields, self.shop.attempt, lambda shop: shop.keep(text))
        self.shop.put(text_for("d", "two"))
        self.assert_refused(self.shop, Unlike, ("sizes",), self.shop.trial, lambda shop: shop.keep("a same as d"))

    def test_errors_of_any_kind(self):
        class Odd(BaseException):
            pass

        for error in (ValueError("x"), KeyError("y"), Odd(), StopIteration(), KeyboardInterrupt(), errors.BadRow(()), SystemExit()):
            def action(shop, error=error):
                shop.drop("a")
                shop.put(text_for("z", "late"))
                shop.undo()
                raise error

            for call in (self.shop.attempt, self.shop.trial):
                before = told_by(self.shop)
                with self.assertRaises(error.__class__) as caught:
                    call(action)
                self.assertIs(caught.exception, error)
                self.assertEqual(told_by(self.shop), before)
        self.shop.undo()
        self.assert_refused(self.shop, NothingToUndo, (), self.shop.undo)
        self.shop.redo()
        self.assert_refused(self.shop, NothingToRedo, (), self.shop.redo)

    def test_an_error_that_the_action_catches(self):
        def action(shop):
            shop.put(text_for("c", "wire"))
            for call in (shop.attempt, shop.trial):
                before = told_by(shop)
                with self.assertRaises(ZeroDivisionError):
                    call(lambda inner: (inner.drop("c"), inner.undo(), inner.drop("a"), 1 // 0))
                self.assertEqual(told_by(shop), before)
            self.assert_error(NoName, ("x",), shop.drop, "x")
            shop.undo()
            shop.redo()
            return 7

        self.assertEqual(self.shop.attempt(action), 7)
        self.assert_kept(self.shop, (("a", "wire"), ("b", "twice"), ("c", "wire")), ("a same as b",))

    def test_what_changes_nothing(self):
        def back(shop):
            shop.drop("a")
            shop.undo()
            shop.put(text_for("c", "two"))
            shop.drop("c")

        self.shop.put(text_for("z", "wire"))
        self.shop.undo()
        self.shop.attempt(back)
        self.shop.attempt(lambda shop: None)
        self.shop.redo()
        self.assertEqual(self.shop.names(), ("a", "b", "z"))
        self.shop.undo()
        self.shop.undo()
        self.assertEqual(self.shop.promises(), ())
        self.assert_refused(self.shop, NothingToUndo, (), self.shop.undo)

    def test_undo_and_redo_within(self):
        def action(shop):
            self.assert_refused(shop, NothingToUndo, (), shop.undo)
            self.assert_refused(shop, NothingToRedo, (), shop.redo)
            shop.put(text_for("c", "wire"))
            shop.put(text_for("d", "wire"))
            shop.undo()
            self.assertEqual(shop.names(), ("a", "b", "c"))
            shop.redo()
            shop.undo()
            shop.undo()
            self.assert_refused(shop, NothingToUndo, (), shop.undo)
            shop.redo()

        self.shop.put(text_for("z", "wire"))
        self.shop.undo()
        self.shop.attempt(action)
        self.assertEqual(self.shop.names(), ("a", "b", "c"))
        # What was taken back within is gone, and so is what could be done again ahead of it.
        self.assert_refused(self.shop, NothingToRedo, (), self.shop.redo)
        self.shop.undo()
        self.assertEqual(self.shop.names(), ("a", "b"))

    def test_trial(self):
        def action(shop):
            shop.put(text_for("c", "two"))
            shop.rename("a", "x")
            return told_by(shop)

        self.shop.put(text_for("z", "wire"))
        self.shop.undo()
        before = told_by(self.shop)
        told = self.shop.trial(action)
        self.assertEqual(told[1:], (("x", "b", "c"), ("x same as b",)))
        self.assertEqual(told_by(self.shop), before)
        self.shop.redo()
        self.assertEqual(self.shop.names(), ("a", "b", "z"))
        self.shop.undo()
        self.shop.undo()
        self.assertEqual(self.shop.promises(), ())

    def test_one_within_another(self):
        def inner(shop):
            self.assert_refused(shop, NothingToUndo, (), shop.undo)
            shop.put(text_for("d", "wire"))
            shop.put(text_for("e", "wire"))
            # The promise is broken here, and nobody looks.
            shop.put(text_for("a", "inverse"))
            return "inner"

        def outer(shop):
            shop.put(text_for("c", "wire"))
            self.assertEqual(shop.attempt(inner), "inner")
            self.assertEqual(shop.names(), ("a", "b", "c", "d", "e"))
            shop.undo()
            self.assertEqual(shop.names(), ("a", "b", "c"))
            shop.redo()
            self.assertEqual(shop.trial(lambda one: (one.drop("c"), one.names())[1]), ("a", "b", "d", "e"))
            self.assertEqual(shop.names(), ("a", "b", "c", "d", "e"))
            shop.put(text_for("b", "inverse"))
            return shop.attempt(lambda one: one.trial(lambda two: two.attempt(lambda three: three.names())))

        self.assertEqual(self.shop.attempt(outer), ("a", "b", "c", "d", "e"))
        self.assertEqual(self.shop.names(), ("a", "b", "c", "d", "e"))
        self.shop.undo()
        self.assert_kept(self.shop, (("a", "wire"), ("b", "twice")), ("a same as b",))
        self.assertEqual(self.shop.trial(outer), ("a", "b", "c", "d", "e"))
        self.assert_kept(self.shop, (("a", "wire"), ("b", "twice")), ("a same as b",))

    def test_an_attempt_within_a_trial_that_ends(self):
        """A promise that an inner one breaks is looked at when the outermost one ends."""
        def breaks(shop):
            return shop.attempt(lambda one: one.put(text_for("a", "inverse")))

        for call in (self.shop.attempt, self.shop.trial):
            self.assert_not_kept(self.shop, "a same as b", ((0,),), call, breaks)
            self.assertEqual(call(lambda shop: shop.trial(lambda one: one.put(text_for("a", "inverse")))), None)
        self.shop.put(text_for("c", "wire"))
        self.assertEqual(self.shop.names(), ("a", "b", "c"))

    def test_behind_an_attempt_promises_are_looked_at_again(self):
        self.shop.attempt(lambda shop: shop.put(text_for("c", "wire")))
        self.shop.trial(lambda shop: None)
        with self.assertRaises(ZeroDivisionError):
            self.shop.attempt(lambda shop: 1 // 0)
        self.assert_not_kept(self.shop, "a same as b", ((0,),), self.shop.put, text_for("a", "inverse"))


class Random(Shops):
    """A workshop and the plain one of the tests are told the same, row after row."""

    NAMES = ("a", "b", "c", "d")

    def some_calls(self, chance, depth=0):
        calls = []
        for _ in range(chance.randrange(1, 7)):
            kind = chance.choice(
                ("put", "put", "put", "drop", "rename", "keep", "keep", "keep", "release", "undo", "undo", "redo", "attempt", "trial")
            )
            one, other = chance.choice(self.NAMES), chance.choice(self.NAMES)
            if kind == "put":
                pairs = [(name, chance.choice(list(SHAPES))) for name in chance.sample(self.NAMES, chance.randrange(1, 3))]
                if chance.random() < 0.6:
                    pairs = [(name, chance.choice(("wire", "twice", "toggle", "shift"))) for name, _ in pairs]
                calls.append((kind, pairs))
            elif kind == "drop":
                calls.append((kind, one))
            elif kind == "rename":
                calls.append((kind, one, chance.choice(self.NAMES + ("e", "one"))))
            elif kind in ("keep", "release"):
                signal = chance.choice(("o", "r", "i"))
                calls.append((kind, f"{one} same as {other}" if chance.random() < 0.7 else f"{one}  always {signal}"))
            elif kind in ("attempt", "trial"):
                if depth < 3:
                    calls.append((kind, self.some_calls(chance, depth + 1), chance.random() < 0.5, chance.random() < 0.2))
            else:
                calls.append((kind,))
        return calls

    def called(self, shop, call, plain, log):
        """Makes a call, of a workshop or of the plain one; what comes of it goes to the log."""
        kind, arguments = call[0], call[1:]
        if kind in ("attempt", "trial"):
            calls, catches, fails = arguments

            def action(inner):
                for further in calls:
                    try:
                        self.called(inner, further, plain, log)
                    except (errors.SparkError, Refused):
                        if not catches:
                            raise
                if fails:
                    raise ZeroDivisionError()
                return len(calls)

            arguments = (action,)
        elif kind == "put" and not plain:
            arguments = (texts(*arguments[0]),)
        try:
            told = getattr(shop, kind)(*arguments)
            log.append((kind, told, self.stand(shop, plain)))
        except ZeroDivisionError:
            log.append((kind, "failed", self.stand(shop, plain)))
        except (errors.SparkError, Refused) as why:
            log.append((kind, self.error(why), self.stand(shop, plain)))
            raise

    def stand(self, shop, plain):
        if plain:
            promises = tuple(" ".join(words) for words in shop.promises)
            return texts(*shop.circuits), tuple(shop.names()), promises
        return told_by(shop)

    def error(self, why):
        """An error as a tuple; of a witness only what promise it is for."""
        if isinstance(why, Refused):
            return why.told[:2]
        return (why.__class__.__name__,) + tuple(vars(why).values())[:1]

    def test_many_rows_of_calls(self):
        chance = random.Random(1)
        seen = {}
        for _ in range(400):
            calls = self.some_calls(chance) + self.some_calls(chance) + self.some_calls(chance)
            shop, plain = Workshop(), PlainShop()
            logs = [], []
            for call in calls:
                for one, is_plain, log in ((shop, False, logs[0]), (plain, True, logs[1])):
                    try:
                        self.called(one, call, is_plain, log)
                    except (errors.SparkError, Refused):
                        pass
                self.assertEqual(logs[0], logs[1])
            self.assert_history(shop, plain)
            for _, told, _ in logs[0]:
                name = told[0] if isinstance(told, tuple) else "right"
                seen[name] = seen.get(name, 0) + 1
        for name in ("right", "NotKept", "Unlike", "NoName", "TakenName", "BadName", "NothingToUndo", "NothingToRedo"):
            self.assertGreater(seen[name], 40, name)

    def assert_history(self, shop, plain):
        """As much can be undone and done again of both."""
        for call, kind in (("redo", NothingToRedo), ("undo", NothingToUndo)):
            for _ in range(len(plain.undone if call == "redo" else plain.done)):
                getattr(shop, call)()
                getattr(plain, call)()
                self.assertEqual(told_by(shop), self.stand(plain, True))
            self.assert_error(kind, (), getattr(shop, call))

    def test_witnesses(self):
        chance = random.Random(2)
        found = {"same": 0, "always": 0}
        for _ in range(200):
            names = {name: chance.choice(list(SHAPES)) for name in self.NAMES}
            shop = Workshop(texts(*names.items()))
            text = f"{chance.choice(self.NAMES)} same as {chance.choice(self.NAMES)}"
            if chance.random() < 0.3:
                text = f"{chance.choice(self.NAMES)} always {chance.choice('iro')}"
            try:
                shop.keep(text)
            except NotKept as why:
                words = tuple(text.split())
                found[words[1]] += 1
                self.assertEqual(why.promise, text)
                self.assertTrue(is_witness(words, names, why.witness))
                rows = rows_of_witness(words, why.witness)
                self.assertTrue(only_tuples(rows))
                is_kept, witness = shop.kept(text)
                self.assertIs(is_kept, False)
                self.assertEqual(rows_of_witness(words, witness), rows)
            except (NoName, Unlike):
                pass
        self.assertGreater(min(found.values()), 10)


class Sizes(Shops):
    def test_six_circuits_at_their_limits(self):
        lines = ["  input i", "  reg p = 0", "  reg q = 1", "  reg r = 0", "  reg s = 1"]
        lines += ["  a = p xor i", "  b = q and a", "  c = not b", "  d = r or c", "  e = d and s", "  f = not e"]
        lines += ["  next p = a", "  next q = c", "  next r = b", "  next s = f", "  output f", "end"]
        other = [line.replace("a = p xor i", "a = i xor p").replace("e = d and s", "e = s and d") for line in lines]
        names = ["one1", "one2", "one3", "one4", "one5", "one6"]
        shop = Workshop()
        for at, name in enumerate(names):
            shop.put("\n".join([f"circuit {name}"] + (lines, other)[at % 2]))
        for name, another in zip(names, names[1:]):
            shop.keep(f"{name} same as {another}")
        rows = rows_of_bits(1, 1, 6)
        for name in names:
            self.assertEqual(shop.show(name, rows), run(shop.get(name).circuit, rows))
        with self.assertRaises(NotKept):
            shop.keep("one1 always f")
        for _ in range(20):
            shop.rename("one1", "two1")
            shop.rename("two1", "one1")
        for _ in range(40):
            shop.undo()
        self.assertEqual(len(shop.promises()), 5)

    def test_many_rows(self):
        shop = Workshop(text_for("a", "shift"))
        for number in range(40):
            rows = rows_of_bits(number, 1, 6)
            self.assertEqual(shop.show("a", rows), plain_run(SHAPES["shift"][1], (1, 0), rows)[0])

    def test_many_edits(self):
        shop = Workshop()
        for number in range(300):
            shop.put(text_for("a", ("wire", "twice")[number % 2]))
        for _ in range(300):
            shop.undo()
        self.assertEqual(shop.names(), ())
        for _ in range(300):
            shop.redo()
        self.assertEqual(shop.text(), text_for("a", "twice"))

    def test_deep_attempts(self):
        def deeper(depth):
            return lambda shop: (shop.put(text_for("a", ("wire", "twice")[depth % 2])), depth and shop.attempt(deeper(depth - 1)))

        shop = Workshop()
        shop.attempt(deeper(40))
        self.assertEqual(shop.text(), text_for("a", "wire"))
        shop.undo()
        self.assertEqual(shop.names(), ())
