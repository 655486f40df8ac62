import unittest

from delaynets.errors import InvalidInputs, InvalidName, InvalidOutputs, NameTaken, NoOutput, NotASignal
from delaynets.nets import Draft, Net
from delaynets.numbers import Number
from delaynets.signals import Every, Late, Name, Sum
from tests.helpers import PromiseTest, number_values, plain_values, signal_values

X, Y = Name("x"), Name("y")
NO_NAMES = ["", "abcdefghi", "1", "1a", "A", "aB", "a_", "a b", " a", "a ", "a\n", "\na", "a-b", "x(", "sum(x)", "a,b"]


def no_names():
    """Values that are no names."""
    return [value for value in plain_values() if not (isinstance(value, str) and value == "x")] \
        + NO_NAMES + number_values() + signal_values() + [0, 1, -5, 10 ** 39]


def filled_draft():
    """A draft with two inputs, two definitions and two outputs."""
    draft = Draft("x", "in")
    draft["b"] = Sum(X, Name("in"))
    draft["a"] = Late(Name("b"), 2)
    draft.show("a", "x")
    return draft


class DraftCase(PromiseTest):
    def state(self, draft):
        names = [name for name in ("x", "in", "a", "b", "c", "y") if name in draft]
        try:
            made = str(draft.made())
        except NoOutput:
            made = None
        return (draft.inputs, draft.outputs, len(draft), names, made)

    def unchanged(self, draft, deed):
        """Check that the deed leaves the draft as it is."""
        before = self.state(draft)
        deed()
        self.assertEqual(self.state(draft), before)


class InputsTest(DraftCase):
    def test_one_to_three_inputs(self):
        for inputs in (("x",), ("y", "x"), ("input", "output", "sum"), ("z9", "a", "abcdefgh")):
            draft = Draft(*inputs)
            self.assertEqual(draft.inputs, inputs)
            self.assertIs(draft.inputs.__class__, tuple)
            self.assertEqual(draft.outputs, ())
            self.assertIs(draft.outputs.__class__, tuple)
            self.assertEqual(len(draft), 0)

    def test_wrong_numbers_of_inputs(self):
        self.fails(InvalidInputs, lambda: Draft(), index=None)
        self.fails(InvalidInputs, lambda: Draft("a", "b", "c", "d"), index=None)
        self.fails(InvalidInputs, lambda: Draft("a", "b", "c", "d", "e"), index=None)

    def test_the_number_is_checked_first(self):
        self.fails(InvalidInputs, lambda: Draft("a", "a", "", 4), index=None)
        self.fails(InvalidInputs, lambda: Draft(1, 2, 3, 4), index=None)

    def test_values_that_are_no_names(self):
        for value in no_names():
            self.fails(InvalidInputs, lambda: Draft(value), index=0)
            self.fails(InvalidInputs, lambda: Draft("a", value), index=1)
            self.fails(InvalidInputs, lambda: Draft("a", "b", value), index=2)
            self.fails(InvalidInputs, lambda: Draft(value, value, value), index=0)

    def test_names_that_came_before(self):
        self.fails(InvalidInputs, lambda: Draft("a", "a"), index=1)
        self.fails(InvalidInputs, lambda: Draft("a", "b", "a"), index=2)
        self.fails(InvalidInputs, lambda: Draft("a", "b", "b"), index=2)
        self.fails(InvalidInputs, lambda: Draft("a", "a", "a"), index=1)

    def test_the_first_wrong_one_is_told(self):
        self.fails(InvalidInputs, lambda: Draft("a", "a", ""), index=1)
        self.fails(InvalidInputs, lambda: Draft("a", "", "a"), index=1)
        self.fails(InvalidInputs, lambda: Draft("", "a", "a"), index=0)
        self.fails(InvalidInputs, lambda: Draft(["a"], "a", "a"), index=0)


class DefinitionsTest(DraftCase):
    def test_put_in(self):
        draft = Draft("x")
        draft["y"] = X
        self.assertEqual((len(draft), "y" in draft, "x" in draft), (1, True, False))
        draft["a"] = Late(Y, 1)
        self.assertEqual((len(draft), "a" in draft), (2, True))
        draft.show("a")
        self.assertEqual(str(draft.made()), "input x\na = late(y, 1)\ny = x\noutput a")

    def test_put_in_the_place_of_another(self):
        draft = Draft("x")
        draft["y"] = X
        draft["z"] = Y
        draft["y"] = Every(X, 2)
        draft.show("z")
        self.assertEqual(len(draft), 2)
        self.assertEqual(str(draft.made()), "input x\ny = every(x, 2)\nz = y\noutput z")

    def test_names_that_are_used_need_not_be_defined_yet(self):
        draft = Draft("x")
        draft["y"] = Sum(Name("later"), Name("y"))
        self.assertEqual((len(draft), "later" in draft), (1, False))

    def test_under_no_name(self):
        draft = filled_draft()
        for value in no_names():
            def put():
                draft[value] = X
            self.unchanged(draft, lambda: self.fails(InvalidName, put, value=value))

    def test_for_an_input(self):
        draft = filled_draft()
        for name in ("x", "in"):
            def put():
                draft[name] = Y
            self.unchanged(draft, lambda: self.fails(NameTaken, put, name=name))

    def test_no_expression(self):
        draft = filled_draft()
        for value in plain_values() + number_values() + [0, 1, 5, Draft("x"), draft.made()]:
            for name in ("a", "b", "y"):
                def put():
                    draft[name] = value
                self.unchanged(draft, lambda: self.fails(NotASignal, put, value=value))

    def test_the_order_of_the_errors(self):
        draft = filled_draft()

        def put(name, value):
            draft[name] = value
        self.unchanged(draft, lambda: self.fails(InvalidName, lambda: put("1", "x"), value="1"))
        self.unchanged(draft, lambda: self.fails(InvalidName, lambda: put(None, None), value=None))
        self.unchanged(draft, lambda: self.fails(NameTaken, lambda: put("x", "x"), name="x"))
        self.unchanged(draft, lambda: self.fails(NameTaken, lambda: put("in", 5), name="in"))

    def test_any_number_of_definitions(self):
        draft = Draft("x")
        for count in range(30):
            draft[f"n{count}"] = X
            self.assertEqual(len(draft), count + 1)


class ItemsTest(DraftCase):
    def test_any_name(self):
        draft = filled_draft()
        for name in ("x", "in", "a", "b", "nowhere", "input", "abcdefgh", "z9"):
            def check():
                self.equal(draft[name], Name(name))
                self.assertIs(draft[name].__class__, Name)
            self.unchanged(draft, check)

    def test_no_names(self):
        draft = filled_draft()
        for value in no_names():
            self.unchanged(draft, lambda: self.fails(InvalidName, lambda: draft[value], value=value))

    def test_whether_a_value_is_defined(self):
        draft = filled_draft()
        for name in ("a", "b"):
            self.assertIs(name in draft, True)
        for value in no_names() + ["x", "in", "c", "aa", "out", "a ", "A"]:
            self.assertIs(value in draft, False)
            self.assertIs(value not in draft, True)

    def test_nothing_is_defined_at_first(self):
        draft = Draft("x")
        for value in no_names() + ["x", "a"]:
            self.assertIs(value in draft, False)


class OutputsTest(DraftCase):
    def test_outputs(self):
        draft = Draft("x")
        for names in (("x",), ("a", "x"), ("c", "b", "a"), ("x", "nowhere")):
            self.same(draft.show(*names), None)
            self.assertEqual(draft.outputs, names)
            self.assertIs(draft.outputs.__class__, tuple)
        self.assertEqual((draft.inputs, len(draft)), (("x",), 0))

    def test_wrong_numbers(self):
        for draft in (Draft("x"), filled_draft()):
            self.unchanged(draft, lambda: self.fails(InvalidOutputs, lambda: draft.show(), index=None))
            for names in (("a", "b", "c", "d"), ("a", "a", "a", "a"), (1, 2, 3, 4), ("a", "b", "c", "d", "e")):
                self.unchanged(draft, lambda: self.fails(InvalidOutputs, lambda: draft.show(*names), index=None))

    def test_values_that_are_no_names(self):
        draft = filled_draft()
        for value in no_names():
            for at, names in enumerate(((value,), ("x", value), ("x", "a", value))):
                self.unchanged(draft, lambda: self.fails(InvalidOutputs, lambda: draft.show(*names), index=at))
            self.unchanged(draft, lambda: self.fails(InvalidOutputs, lambda: draft.show(value, value), index=0))

    def test_names_that_came_before(self):
        draft = filled_draft()
        for names, at in ((("a", "a"), 1), (("a", "b", "a"), 2), (("a", "b", "b"), 2), (("a", "a", "a"), 1),
                          (("a", "a", ""), 1), (("a", "", "a"), 1), (("", "a", "a"), 0)):
            self.unchanged(draft, lambda: self.fails(InvalidOutputs, lambda: draft.show(*names), index=at))


class DraftTest(DraftCase):
    def test_a_net_stays_when_its_draft_changes(self):
        draft = filled_draft()
        net = draft.made()
        text = "input x\ninput in\na = late(b, 2)\nb = sum(x, in)\noutput a\noutput x"
        draft["b"] = Every(X, 2)
        draft["c"] = Name("b")
        draft.show("c")
        self.assertEqual(str(net), text)
        self.assertEqual((net.outputs, net.names, net.kept, net.period), (("a", "x"), ("a", "b", "in", "x"), 2, 1))
        self.assertEqual(str(net.definition("b")), "sum(x, in)")
        self.assertEqual(net.rate("b"), (1, 1))
        self.assertEqual(str(draft.made()), "input x\ninput in\na = late(b, 2)\nb = every(x, 2)\nc = b\noutput c")

    def test_making_changes_nothing(self):
        draft = filled_draft()
        self.unchanged(draft, draft.made)
        one, other = draft.made(), draft.made()
        self.equal(one, other)
        self.assertIsInstance(one, Net)

    def test_equal_only_to_itself(self):
        draft, other = filled_draft(), filled_draft()
        self.equal(draft, draft)
        self.unequal(draft, other)
        self.unequal(Draft("x"), Draft("x"))
        for value in plain_values() + number_values() + signal_values() + [draft.made(), str(draft.made())]:
            self.unequal(draft, value)

    def test_two_drafts_share_nothing(self):
        one, other = Draft("x"), Draft("x")
        one["y"] = X
        one.show("y")
        self.assertEqual((len(other), other.outputs, "y" in other), (0, (), False))

    def test_the_program_of_the_document(self):
        draft = Draft("x")
        draft["slow"] = (draft["x"] + (draft["x"] >> 1)) // 2
        draft["acc"] = draft["slow"] + (draft["acc"] >> 1) * Number(1, 2)
        draft.show("acc")
        text = "input x\nacc = sum(slow, times(1/2, late(acc, 1)))\nslow = every(sum(x, late(x, 1)), 2)\noutput acc"
        net = draft.made()
        self.assertEqual(str(net), text)
        self.equal(net, Net.read(text))


if __name__ == "__main__":
    unittest.main()
