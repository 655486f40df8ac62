import random
import unittest

from delaynets.catalog import filled, halves, held, joined, running_sum, thinned
from delaynets.endings import settles
from delaynets.errors import BrokenDemand, Busy, InvalidEdit, NothingToUndo, UnknownName
from delaynets.machines import kept_numbers
from delaynets.nets import Net
from delaynets.numbers import Number
from delaynets.shifts import least_shift
from delaynets.telling import told_back
from delaynets.workshops import Workshop
from tests.examples import WRITTEN, thrown
from tests.helpers import PromiseTest, number_values, plain_values, signal_values
from tests.rewriting import pairs
from tests.test_alike import deciding
from tests.test_runs import no_nets, one_net

LATE = Net.read("input x\ny = late(x, 1)\noutput y")
SLOW = Net.read("input x\ny = sum(x, times(-1/2, late(y, 1)))\noutput y")
THREE = Net.read("input x\ns = spread(every(x, 3), 3)\noutput s")
FIVE = Net.read("input x\ns = spread(every(x, 5), 5)\noutput s")
NAMES = ["", "a", "A net", "zzzzzzzzzzzz", "\n", "1", "put", "~"]


class Stop(Exception):
    """What a watch raises."""


def looks(workshop):
    """All that can be seen of a workshop."""
    return (workshop.names, [(name, str(workshop[name]), workshop.demands(name)) for name in workshop.names],
            workshop.history, len(workshop), repr(workshop))


def filled_workshop():
    workshop = Workshop()
    workshop.do(("put", "one", joined()))
    workshop.do(("put", "two", SLOW))
    workshop.do(("demand", "one", ("alike", LATE)))
    workshop.do(("demand", "two", ("settles",)))
    workshop.do(("demand", "one", ("told back", 1)))
    return workshop


def wrong_demands():
    return [*plain_values(), *number_values(), 0, 1, joined(), "settles", ("settles", 1), ("settles", None), ("settle",),
            ("alike",), ("alike", str(LATE)), ("alike", LATE, LATE), ("alike", 1), ("alike", None), ("keeps time",),
            ("keeps time", 0), ("keeps time", 13), ("keeps time", -1), ("keeps time", True), ("keeps time", Number(1)),
            ("keeps time", "1"), ("keeps time", 1, 1), ("keeps time", None), ("keeps time", 10 ** 39), ("at most", -1),
            ("at most",), ("at most", True), ("at most", False), ("at most", Number(1)), ("at most", LATE), ("at most", 1, 1),
            ("told back", -1), ("told back",), ("told back", True), ("told back", "1"), ("told back", 0, 0), ["settles"],
            ["alike", LATE], (["settles"],), ("Settles",), ("keeps  time", 1), ("at_most", 1), ("put", LATE), (None,), ((),),
            ("at most", (1,)), (1, 1)]


def wrong_edits():
    demand = ("settles",)
    rows = [*plain_values(), *number_values(), *signal_values(), 0, 1, joined(), "put", ("put",), ("put", "one"),
            ("put", "one", None), ("put", "one", str(LATE)), ("put", 1, LATE), ("put", None, LATE), ("put", "one", LATE, LATE),
            ("put", ("one",), LATE), ("put", True, LATE), ("put", b"one", LATE), ["put", "one", LATE], ("remove",),
            ("remove", 1), ("remove", None), ("remove", "one", "two"), ("remove", ["one"]), ("remove", "one", LATE),
            ["remove", "one"], ("demand", "one"), ("demand", 1, demand), ("demand", "one", demand, demand), ("free", "one"),
            ("free", None, demand), ("free", "one", demand, 1), ("Put", "one", LATE), ("do", "one", LATE), ("settles",),
            ("undo",), (["put"], "one", LATE), (None, "one", LATE), (1, "one", LATE), ("put", LATE, "one"), ("one", "put", LATE),
            ("demand", ("settles",), "one"), ("remove", "one", None)]
    for value in wrong_demands():
        rows += [("demand", "one", value), ("free", "one", value)]
    return rows


class EditsTest(PromiseTest):
    def test_an_empty_workshop(self):
        workshop = Workshop()
        self.assertEqual(looks(workshop), ((), [], (), 0, "Workshop(0 nets)"))
        self.fails(NothingToUndo, workshop.undo)

    def test_put_and_remove(self):
        workshop = Workshop()
        self.assertIs(workshop.do(("put", "b", LATE)), None)
        self.assertEqual(repr(workshop), "Workshop(1 nets)")
        workshop["a"] = joined()
        self.assertIs(workshop["b"], LATE)
        self.equal(workshop["a"], joined())
        self.assertEqual((workshop.names, len(workshop), repr(workshop)), (("a", "b"), 2, "Workshop(2 nets)"))
        workshop.do(("put", "a", SLOW))
        self.assertIs(workshop["a"], SLOW)
        workshop.do(edit=("remove", "b"))
        self.assertEqual((workshop.names, len(workshop)), (("a",), 1))
        self.assertEqual(workshop.history, (("put", "b", LATE), ("put", "a", joined()), ("put", "a", SLOW), ("remove", "b")))

    def test_any_string_is_a_name(self):
        workshop = Workshop()
        for count, name in enumerate(NAMES):
            self.assertIs(name in workshop, False)
            self.fails(UnknownName, lambda: workshop[name], name=name)
            workshop.do(("put", name, LATE))
            self.assertIs(name in workshop, True)
            self.assertEqual(len(workshop), count + 1)
        self.assertEqual(workshop.names, tuple(sorted(NAMES)))
        for name in NAMES:
            workshop.do(("demand", name, ("settles",)))
            self.assertEqual(workshop.demands(name), (("settles",),))
            workshop.do(("remove", name))
            self.assertIs(name in workshop, False)
        self.assertEqual(workshop.names, ())

    def test_demands_in_order(self):
        workshop = Workshop()
        workshop["x"] = LATE
        self.assertEqual(workshop.demands("x"), ())
        demands = [("at most", 1), ("settles",), ("at most", 5), ("settles",), ("alike", joined()), ("keeps time", 12)]
        for count, demand in enumerate(demands):
            workshop.do(("demand", "x", demand))
            self.assertEqual(workshop.demands("x"), tuple(demands[:count + 1]))
        self.assertEqual(workshop.demands(name="x"), tuple(demands))

    def test_free(self):
        workshop = Workshop()
        workshop["x"] = LATE
        for demand in (("at most", 1), ("settles",), ("at most", 1), ("alike", joined())):
            workshop.do(("demand", "x", demand))
        workshop.do(("free", "x", ("at most", 1)))
        self.assertEqual(workshop.demands("x"), (("settles",), ("at most", 1), ("alike", joined())))
        workshop.do(("free", "x", ("alike", Net.read(str(joined())))))
        self.assertEqual(workshop.demands("x"), (("settles",), ("at most", 1)))
        before = looks(workshop)
        for demand in (("alike", joined()), ("alike", LATE), ("at most", 2), ("told back", 1), ("keeps time", 1)):
            self.fails(BrokenDemand, lambda: workshop.do(("free", "x", demand)), name="x", demand=demand)
            self.assertEqual(looks(workshop), before)
        workshop.do(("free", "x", ("at most", 1)))
        self.fails(BrokenDemand, lambda: workshop.do(("free", "x", ("at most", 1))), name="x")
        workshop.do(("free", "x", ("settles",)))
        self.assertEqual(workshop.demands("x"), ())
        self.fails(BrokenDemand, lambda: workshop.do(("free", "x", ("settles",))), name="x")

    def test_remove_takes_the_demands_away(self):
        workshop = filled_workshop()
        workshop.do(("remove", "one"))
        self.fails(UnknownName, lambda: workshop.demands("one"), name="one")
        workshop["one"] = running_sum()
        self.assertEqual(workshop.demands("one"), ())
        self.assertEqual(workshop.demands("two"), (("settles",),))

    def test_put_keeps_the_demands(self):
        workshop = filled_workshop()
        workshop["one"] = LATE
        self.assertEqual(workshop.demands("one"), (("alike", LATE), ("told back", 1)))
        before = looks(workshop)
        for net, demand in ((SLOW, ("alike", LATE)), (thinned(2), ("alike", LATE))):
            self.fails(BrokenDemand, lambda: workshop.do(("put", "one", net)), name="one")
            try:
                workshop["one"] = net
            except BrokenDemand as error:
                self.assertEqual((error.name, error.demand), ("one", demand))
            self.assertEqual(looks(workshop), before)

    def test_the_first_demand_that_is_missed(self):
        workshop = Workshop()
        workshop["n"] = LATE
        demands = [("told back", 2), ("at most", 1), ("settles",), ("keeps time", 1)]
        for demand in demands:
            workshop.do(("demand", "n", demand))
        for net, missed in ((Net.read("input x\ny = late(x, 2)\noutput y"), 1), (running_sum(), 2), (thinned(2), 0),
                            (held(2), 0), (Net.read("input x\ny = late(x, 3)\noutput y"), 0), (halves(), 3),
                            (Net.read("input x\ny = sum(x, late(y, 2))\noutput y"), 1)):
            before = looks(workshop)
            self.fails(BrokenDemand, lambda: workshop.do(("put", "n", net)), name="n", demand=demands[missed])
            self.assertEqual(looks(workshop), before)
        workshop.do(("put", "n", filled(3)))
        self.assertEqual(workshop.demands("n"), tuple(demands))


class DemandsTest(PromiseTest):
    def check(self, net, demand, wanted):
        workshop = Workshop()
        workshop["n"] = net
        before = looks(workshop)
        if wanted:
            workshop.do(("demand", "n", demand))
            self.assertEqual(workshop.demands("n"), (demand,))
        else:
            self.fails(BrokenDemand, lambda: workshop.do(("demand", "n", demand)), name="n", demand=demand)
            self.assertEqual(looks(workshop), before)
        other = Workshop()
        other["n"] = net
        try:
            other.do(("demand", "n", demand))
        except BrokenDemand as error:
            self.assertIs(wanted, False)
            self.assertIs(error.demand, demand)

    def test_numbers_at_their_bounds(self):
        for text in WRITTEN + thrown(40, 161):
            net = Net.read(text)
            shift = least_shift(net)
            for count in range(1, 13):
                self.check(net, ("keeps time", count), count % shift == 0)
            most = max(kept_numbers(net))
            for count in (0, most - 1, most, most + 1, 10 ** 39):
                if count >= 0:
                    self.check(net, ("at most", count), count >= most)
            delay = told_back(net)
            for count in (0, 1, 10 ** 39) if delay is None else {0, max(delay - 1, 0), delay, delay + 1}:
                self.check(net, ("told back", count), delay is not None and delay <= count)
            self.check(net, ("settles",), settles(net))

    def test_alike(self):
        for text, line in pairs(WRITTEN + thrown(60, 162), 163):
            one, other = deciding.answers_of(text), deciding.answers_of(line)
            wanted = deciding.joint_period(one, other) <= 12 and deciding.earliest(one, other) is None
            self.check(Net.read(text), ("alike", Net.read(line)), wanted)
        self.check(joined(), ("alike", LATE), True)
        self.check(joined(), ("alike", joined()), True)

    def test_nets_that_cannot_be_held_against_each_other(self):
        two = Net.read("input x\ninput z\noutput x")
        zero = Net.read("input x\na = times(0, spread(every(x, 5), 5))\noutput a")
        other = Net.read("input x\na = times(0, spread(every(x, 3), 3))\noutput a")
        for net, second in ((LATE, two), (two, LATE), (halves(), thinned(2)), (THREE, FIVE), (zero, other)):
            self.check(net, ("alike", second), False)
        four = Net.read("input x\na = times(0, spread(every(x, 4), 4))\noutput a")
        self.check(other, ("alike", four), True)


class ErrorsTest(PromiseTest):
    def test_what_is_no_edit(self):
        for workshop in (Workshop(), filled_workshop()):
            before = looks(workshop)
            for value in wrong_edits():
                self.fails(InvalidEdit, lambda: workshop.do(value), index=0)
                self.fails(InvalidEdit, lambda: workshop.do_all(value), index=0)
                self.fails(InvalidEdit, lambda: workshop.do_all(("put", "new", LATE), ("remove", "no"), value, value), index=2)
                self.assertEqual(looks(workshop), before)

    def test_assigning_what_makes_no_edit(self):
        workshop = filled_workshop()
        before = looks(workshop)

        def assign(name, net):
            workshop[name] = net

        for value in no_nets():
            self.fails(InvalidEdit, lambda: assign("one", value), index=0)
        for value in [*plain_values(), *number_values(), 0, LATE]:
            if not isinstance(value, str):
                self.fails(InvalidEdit, lambda: assign(value, LATE), index=0)
        self.assertEqual(looks(workshop), before)

    def test_unknown_names(self):
        workshop = filled_workshop()
        before = looks(workshop)
        for name in ("", "One", "one ", "three", "x"):
            for edit in (("remove", name), ("demand", name, ("settles",)), ("free", name, ("settles",)),
                         ("demand", name, ("at most", 0))):
                self.fails(UnknownName, lambda: workshop.do(edit), name=name)
                self.fails(UnknownName, lambda: workshop.do_all(("put", "new", LATE), edit), name=name)
                self.assertEqual(looks(workshop), before)
        for value in [*plain_values(), *number_values(), *signal_values(), 0, 1, LATE, ("one",), ["one"], {"one": 1}]:
            self.fails(UnknownName, lambda: workshop[value], name=value)
            self.fails(UnknownName, lambda: workshop.demands(value), name=value)
            self.assertIs(value in workshop, False)
        self.assertIs("one" in workshop, True)

    def test_broken_demands_change_nothing(self):
        workshop = filled_workshop()
        before = looks(workshop)
        for edit, name, demand in ((("demand", "two", ("at most", 0)), "two", ("at most", 0)),
                                   (("demand", "two", ("alike", LATE)), "two", ("alike", LATE)),
                                   (("free", "two", ("alike", LATE)), "two", ("alike", LATE)),
                                   (("put", "two", running_sum()), "two", ("settles",)),
                                   (("put", "one", LATE.read(str(SLOW))), "one", ("alike", LATE))):
            for deed in (lambda: workshop.do(edit), lambda: workshop.do_all(edit),
                         lambda: workshop.do_all(("put", "new", LATE), ("remove", "two") if name == "one" else
                                                 ("remove", "one"), edit)):
                try:
                    deed()
                except BrokenDemand as error:
                    self.assertEqual((error.name, error.demand), (name, demand))
                else:
                    self.fail(edit)
                self.assertEqual(looks(workshop), before)

    def test_equality_and_iteration(self):
        workshop, other = filled_workshop(), filled_workshop()
        self.unequal(workshop, other)
        self.equal(workshop, workshop)
        for value in [*plain_values(), LATE, looks(workshop)]:
            self.unequal(workshop, value)
        with self.assertRaises(TypeError):
            list(workshop)


class UndoTest(PromiseTest):
    EDITS = [("put", "a", joined()), ("demand", "a", ("alike", LATE)), ("put", "b", SLOW), ("put", "a", LATE),
             ("demand", "b", ("settles",)), ("demand", "b", ("settles",)), ("free", "b", ("settles",)), ("remove", "a"),
             ("put", "", halves()), ("put", "a", running_sum()), ("remove", "b"), ("remove", ""), ("remove", "a")]

    def test_undo_back_to_the_beginning(self):
        workshop = Workshop()
        seen = [looks(workshop)]
        for edit in self.EDITS:
            workshop.do(edit)
            seen.append(looks(workshop))
        for before in seen[:-1][::-1]:
            self.assertIs(workshop.undo(), None)
            self.assertEqual(looks(workshop), before)
        self.fails(NothingToUndo, workshop.undo)
        self.assertEqual(looks(workshop), seen[0])

    def test_undo_of_all_edits_one_by_one(self):
        workshop = Workshop()
        seen = [looks(workshop)]
        self.assertIs(workshop.do_all(*self.EDITS, watch=lambda same, index: seen.append(looks(same))), None)
        self.assertEqual(len(seen), len(self.EDITS) + 1)
        self.assertEqual(workshop.history, tuple(self.EDITS))
        for before in seen[:-1][::-1]:
            workshop.undo()
            self.assertEqual(looks(workshop), before)
        self.fails(NothingToUndo, workshop.undo)

    def test_other_edits_behind_an_undo(self):
        workshop = filled_workshop()
        workshop.undo()
        workshop.do(("demand", "one", ("at most", 1)))
        self.assertEqual(workshop.demands("one"), (("alike", LATE), ("at most", 1)))
        self.assertEqual(len(workshop.history), 5)
        workshop.undo()
        workshop.undo()
        self.assertEqual(workshop.demands("two"), ())

    def test_history_done_anew(self):
        chance = random.Random(164)
        nets = [joined(), LATE, SLOW, halves(), running_sum(), held(2), thinned(2)]
        demands = [("settles",), ("at most", 1), ("told back", 1), ("alike", LATE), ("keeps time", 2), ("keeps time", 1)]
        workshop = Workshop()
        for _ in range(400):
            name = chance.choice("abc")
            edit = chance.choice([("put", name, chance.choice(nets)), ("put", name, chance.choice(nets)), ("remove", name),
                                  ("demand", name, chance.choice(demands)), ("demand", name, chance.choice(demands)),
                                  ("free", name, chance.choice(demands))])
            before = looks(workshop)
            try:
                workshop.do(edit)
                self.assertEqual(workshop.history, before[2] + (edit,))
            except (UnknownName, BrokenDemand):
                self.assertEqual(looks(workshop), before)
            if chance.random() < 0.1 and workshop.history:
                workshop.undo()
        again = Workshop()
        again.do_all(*workshop.history)
        self.assertEqual(looks(again), looks(workshop))
        self.assertGreater(len(workshop.history), 60)
        third = Workshop()
        for edit in workshop.history:
            third.do(edit)
        self.assertEqual(looks(third), looks(workshop))


class DoAllTest(PromiseTest):
    def test_all_or_none(self):
        workshop = filled_workshop()
        workshop.do_all()
        self.assertEqual(len(workshop.history), 5)
        workshop.do_all(watch=None)
        workshop.do_all(watch=lambda same, index: 1 // 0)
        workshop.do_all(("put", "three", held(2)), ("remove", "two"), watch=None)
        self.assertEqual(workshop.names, ("one", "three"))
        before = looks(workshop)
        self.fails(UnknownName, lambda: workshop.do_all(("put", "two", SLOW), ("remove", "three"), ("remove", "three")),
                   name="three")
        self.assertEqual(looks(workshop), before)
        demand = ("keeps time", 1)
        self.fails(BrokenDemand, lambda: workshop.do_all(("put", "one", LATE), ("demand", "three", demand)), name="three",
                   demand=demand)
        self.assertEqual(looks(workshop), before)

    def test_wrong_edits_are_found_before_anything_is_done(self):
        workshop = Workshop()
        seen = []
        self.fails(InvalidEdit, lambda: workshop.do_all(("put", "a", LATE), ("put", "b", SLOW), None,
                                                        watch=lambda same, index: seen.append(index)), index=2)
        self.fails(InvalidEdit, lambda: workshop.do_all(("remove", "a"), ("put", "b"),
                                                        watch=lambda same, index: seen.append(index)), index=1)
        self.assertEqual((seen, looks(workshop)), ([], looks(Workshop())))

    def test_the_watch_looks(self):
        workshop = Workshop()
        seen = []

        def watch(same, index):
            self.assertIs(same, workshop)
            seen.append((index, same.names, len(same.history), "b" in same, repr(same)))

        workshop.do_all(("put", "b", LATE), ("put", "a", SLOW), ("remove", "b"), watch=watch)
        self.assertEqual(seen, [(0, ("b",), 1, True, "Workshop(1 nets)"), (1, ("a", "b"), 2, True, "Workshop(2 nets)"),
                                (2, ("a",), 3, False, "Workshop(1 nets)")])
        self.assertEqual(workshop.names, ("a",))

    def test_the_watch_stops_at_an_edit_that_fails(self):
        workshop = Workshop()
        seen = []
        self.fails(UnknownName, lambda: workshop.do_all(("put", "a", LATE), ("remove", "b"), ("remove", "a"),
                                                        watch=lambda same, index: seen.append(index)), name="b")
        self.assertEqual(seen, [0])
        self.assertEqual(looks(workshop), looks(Workshop()))
        workshop.do(("put", "a", LATE))
        workshop.undo()

    def test_the_watch_raises(self):
        for stop in (Stop, KeyboardInterrupt, InvalidEdit, Busy, StopIteration):
            for at in range(3):
                workshop = filled_workshop()
                before = looks(workshop)

                def watch(same, index):
                    if index == at:
                        raise stop(at) if stop is not Busy else stop()

                with self.assertRaises(stop):
                    workshop.do_all(("put", "three", LATE), ("remove", "two"), ("put", "two", halves()), watch=watch)
                self.assertEqual(looks(workshop), before)
                workshop.do(("remove", "one"))
                workshop.undo()
                workshop.do_all(("put", "three", LATE))
                self.assertEqual(workshop.names, ("one", "three", "two"))

    def test_busy(self):
        workshop = filled_workshop()
        before = looks(workshop)

        def assign(same):
            same["new"] = LATE

        deeds = [lambda same: same.do(("put", "new", LATE)), lambda same: same.do(None), lambda same: same.do_all(),
                 lambda same: same.do_all(None), lambda same: same.do_all(("remove", "no")), lambda same: same.undo(), assign,
                 lambda same: same.do_all(("put", "new", LATE), watch=lambda again, index: None),
                 lambda same: same.__setitem__(1, 1), lambda same: same.do(("remove", "nobody"))]
        for deed in deeds:
            self.fails(Busy, lambda: workshop.do_all(("put", "three", LATE), watch=lambda same, index: deed(same)))
            self.assertEqual(looks(workshop), before)

        def watch(same, index):
            inside = looks(same)
            for deed in deeds:
                self.fails(Busy, lambda: deed(same))
            self.assertEqual(looks(same), inside)

        workshop.do_all(("put", "three", LATE), ("put", "four", LATE), watch=watch)
        self.assertEqual(workshop.names, ("four", "one", "three", "two"))
        self.assertEqual(len(workshop.history), 7)
        workshop.undo()
        workshop.do(("remove", "three"))

    def test_busy_alone_and_not_another_one(self):
        workshop, other = filled_workshop(), Workshop()
        workshop.do_all(("put", "x", LATE), watch=lambda same, index: other.do(("put", "y", same["x"])))
        self.assertEqual(other.names, ("y",))

    def test_what_is_passed_is_kept_as_it_is(self):
        workshop = Workshop()
        demand = ("alike", joined())
        edits = (("put", "a", LATE), ("demand", "a", demand))
        workshop.do_all(*edits)
        self.assertIs(workshop.history[1], edits[1])
        self.assertIs(workshop.demands("a")[0], demand)
        self.assertEqual(edits, (("put", "a", LATE), ("demand", "a", ("alike", joined()))))


if __name__ == "__main__":
    unittest.main()
