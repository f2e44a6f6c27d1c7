"""[60], [61] and [63]: what promises say, and whether they are kept."""

import random

from sparkboard.circuits import Circuit, Parting, is_alike
from sparkboard.errors import BadText, NoName, NotKept, Unlike
from sparkboard.texts import Spoken, text_of
from sparkboard.workshops import Workshop
from tests.asking import Asking
from tests.plain import Strange, only_tuples, plain_least, plain_run, random_plan, strange_values
from tests.plain_shops import SHAPES, is_witness, plain_always, plain_column, text_for

FULL = "".join(text_for(shape, shape) for shape in SHAPES)


class Promises(Asking):
    def setUp(self):
        self.shop = Workshop(FULL)

    def test_same_as(self):
        self.assertEqual(self.shop.kept("toggle same as shift"), (True, None))
        self.assertEqual(self.shop.kept("shift same as toggle"), (True, None))
        self.assertEqual(self.shop.kept("wire same as wire"), (True, None))
        self.assertEqual(self.shop.kept("wire same as inverse")[0], False)
        told = self.shop.kept("wire same as toggle")
        self.assertIs(told.__class__, tuple)
        is_kept, parting = told
        self.assertIs(is_kept, False)
        self.assertIs(parting.__class__, Parting)
        self.assertEqual(vars(parting), {"rows": ((1,),)})
        self.assertTrue(only_tuples(parting.rows))

    def test_always(self):
        self.assertEqual(self.shop.kept("late always o"), (True, None))
        self.assertEqual(self.shop.kept("still always r"), (True, None))
        self.assertEqual(self.shop.kept("still always o"), (True, None))
        self.assertEqual(self.shop.kept("wire always i"), (False, ((0,),)))
        self.assertIs(self.shop.kept("shift always q")[0], False)
        told = self.shop.kept("late always n")
        self.assertEqual((told[0], len(told[1]), told[1][0]), (False, 3, (1,)))

    def test_all_pairs(self):
        shapes = {shape: shape for shape in SHAPES}
        for one in SHAPES:
            for other in SHAPES:
                plan, counterplan = SHAPES[one][1], SHAPES[other][1]
                text = f"{one} same as {other}"
                if (plan[0], len(plan[4])) != (counterplan[0], len(counterplan[4])):
                    self.assert_error(Unlike, ("sizes",), self.shop.kept, text)
                    self.assert_error(Unlike, ("sizes",), self.shop.keep, text)
                elif plain_least(plan, counterplan) is None:
                    self.assertEqual(self.shop.kept(text), (True, None))
                else:
                    is_kept, parting = self.shop.kept(text)
                    self.assertIs(is_kept, False)
                    self.assertTrue(is_witness((one, "same", "as", other), shapes, parting))
                    circuits = self.shop.get(one).circuit, self.shop.get(other).circuit
                    self.assertIs(is_alike(*circuits, parting), True)
            for at, signal in enumerate(SHAPES[one][2]):
                told = self.shop.kept(f"{one} always {signal}")
                if plain_always(SHAPES[one][1], at) is None:
                    self.assertEqual(told, (True, None))
                else:
                    self.assertIs(told[0], False)
                    self.assertTrue(is_witness((one, "always", signal), shapes, told[1]))

    def test_random_circuits(self):
        chance = random.Random(1)
        found = {True: 0, False: 0}
        for _ in range(80):
            inputs = chance.randrange(3)
            plan = random_plan(chance, inputs, chance.randrange(3), chance.randrange(1, 5), 1)
            names = [f"s{k}" for k in range(plan[0] + len(plan[1]) + len(plan[2]))]
            shop = Workshop(text_of(Spoken("a", names, Circuit(*plan))))
            for at, name in enumerate(names):
                is_kept, rows = shop.kept(f"a always {name}")
                least = plain_always(plan, at)
                self.assertIs(is_kept, least is None)
                found[is_kept] += 1
                if least is None:
                    self.assertIsNone(rows)
                else:
                    self.assertEqual(len(rows), least)
                    self.assertEqual(plain_run(plan[:4] + ((at,),), plan[1], rows)[0][-1], (0,))
        self.assertGreater(min(found.values()), 10)

    def test_names_from_the_left(self):
        for text, name in (
            ("none same as wire", "none"), ("wire same as none", "none"), ("no1 same as no2", "no1"), ("none always i", "none"),
            ("none always none", "none"), ("wire always none", "none"), ("wire always a", "a"), ("wire always wire", "wire"),
            ("  two   same  as   none2 ", "none2"),
        ):
            self.assert_error(NoName, (name,), self.shop.kept, text)
            self.assert_error(NoName, (name,), self.shop.keep, text)
            self.assertEqual(self.shop.promises(), ())
        self.assert_error(Unlike, ("sizes",), self.shop.kept, "wire same as two")
        self.assert_error(Unlike, ("sizes",), self.shop.kept, "wire same as both")

    def test_a_promise_that_is_not_kept(self):
        with self.assertRaises(NotKept) as caught:
            self.shop.keep("  wire  same as   inverse ")
        self.assertEqual(caught.exception.promise, "wire same as inverse")
        witness = caught.exception.witness
        self.assertIs(witness.__class__, Parting)
        self.assertEqual(witness.rows, self.shop.kept("wire same as inverse")[1].rows)
        with self.assertRaises(NotKept) as caught:
            self.shop.keep(" late   always n")
        self.assertEqual(caught.exception.promise, "late always n")
        self.assertEqual(caught.exception.witness, self.shop.kept("late always n")[1])
        self.assertTrue(only_tuples(caught.exception.witness))
        self.assertEqual(self.shop.promises(), ())


class Columns(Asking):
    def assert_column(self, text):
        column = plain_column(text)
        shop = Workshop()
        for call in (shop.keep, shop.kept):
            if column is None:
                with self.assertRaises(NoName):
                    call(text)
            else:
                self.assert_error(BadText, (column,), call, text)
        return column

    def test_the_words_of_the_document(self):
        for text, column in (
            ("", 1), (" ", 2), ("a", 2), ("a ", 3), ("a s", 4), ("a same", 7), ("a same ", 8), ("a same a", 9), ("a same as", 10),
            ("a same as ", 11), ("a same as b", None), ("a same as b ", None), ("a same as b c", 13), ("A same as b", 1),
            ("a Same as b", 3), ("a samex as b", 7), ("a sam as b", 6), ("a always", 9), ("a always ", 10), ("a always b", None),
            ("a alway b", 8), ("a alwaysb", 9), ("a same as1 b", 10), ("a same b", 8), ("a as b", 4), ("a b", 3), ("one same as b", 4),
            ("a same as one", 14), ("a same as one ", 14), ("a always same", 14), ("same same as b", 5), ("ones same as b", None),
            ("a1234567890 same as b", None), ("a12345678901 same as b", None), ("a123456789012 same as b", 13), ("1a same as b", 1),
            ("a same as b\n", 12), ("a\nsame as b", 2), ("_a same as b", 1), ("a same as b!", 12), ("a same as B", 11),
            ("a  same  as  b", None), ("   a always b   ", None), ("a same as a23456789012", None), ("a same as a234567890123", 23),
        ):
            self.assertEqual(self.assert_column(text), column, text)

    def test_bent_promises(self):
        chance = random.Random(2)
        found = 0
        texts = ["a same as b", " ab1  always  c_d ", "one1 same as not2", "a234567890_2 same as b", "same1 always as2"]
        for _ in range(4000):
            text = chance.choice(texts)
            for _ in range(chance.randrange(1, 4)):
                at = chance.randrange(len(text) + 1)
                sign = chance.choice("  abeslmwy1_=A\n")
                text = chance.choice((text[:at] + text[at + 1:], text[:at] + sign + text[at:], text[:at] + sign + text[at + 1:]))
            found += self.assert_column(text) is None
        self.assertGreater(found, 400)
        self.assertLess(found, 3600)

    def test_all_beginnings(self):
        for text in ("ab same as cd", "ab always cd", "one1 same as not1", "circuit1 always end1"):
            for end in range(len(text)):
                self.assert_column(text[:end])
                for sign in " a1_!=sA\n":
                    self.assert_column(text[:end] + sign)

    def test_no_string(self):
        shop = Workshop(FULL)
        for value in strange_values() + [b"wire same as wire", ["wire same as wire"], ("wire", "same", "as", "wire"), Strange()]:
            if isinstance(value, str):
                continue
            self.assert_error(BadText, (0,), shop.keep, value)
            self.assert_error(BadText, (0,), shop.kept, value)

    def test_column_ahead_of_names_ahead_of_sizes(self):
        shop = Workshop(FULL)
        for call in (shop.keep, shop.kept):
            self.assert_error(BadText, (17,), call, "no1 same as no2 !")
            self.assert_error(NoName, ("no2",), call, "wire same as no2 ")
            self.assert_error(NoName, ("no1",), call, "no1 same as two")
            self.assert_error(Unlike, ("sizes",), call, "wire same as two ")
