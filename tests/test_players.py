import random
import unittest

from delaynets.catalog import filled, halves, held, joined, running_sum, thinned
from delaynets.errors import InvalidSamples, NotANet, NotAPlayer, NothingToUndo
from delaynets.nets import Net
from delaynets.numbers import Number
from delaynets.runs import Player, Trial, run, tried
from tests.examples import WRITTEN, thrown
from tests.helpers import PromiseTest, number_values, plain_values, signal_values
from tests.reckoning import fractions, net_in
from tests.test_runs import no_nets, some_numbers

TEXTS = WRITTEN + thrown(80, 41)
TWO = "input x\ninput z\ny = sum(x, late(z, 1))\noutput y\noutput z"


class Failed(Exception):
    """What a block of the tests ends with."""


def columns(chance, net, many):
    """So many tuples of samples, one number for each input."""
    return [some_numbers(chance, len(net.inputs)) for _ in range(many)]


def rows_of(net, samples):
    """The same samples, a tuple for each input."""
    return [tuple(column[at] for column in samples) for at in range(len(net.inputs))]


def joined_up(net, pieces):
    """What was shown piece by piece, as a whole."""
    return tuple(tuple(number for piece in pieces for number in piece[at]) for at in range(len(net.outputs)))


class PlayerCase(PromiseTest):
    def same_point(self, player, fed):
        """Check that the player goes on as one does that was fed with just these samples."""
        net = player.net
        self.same(player.time, len(fed))
        more = [tuple(range(at + 1, at + 1 + len(net.inputs))) for at in range(3)]
        whole = run(net, *rows_of(net, fed + more))
        past = run(net, *rows_of(net, fed))
        copy = player.copy()
        shown = joined_up(net, [copy.feed(*samples) for samples in more])
        self.assertEqual(shown, tuple(row[len(before):] for row, before in zip(whole, past)))
        self.same(player.time, len(fed))

    def same_past(self, player, fed):
        """Check that just so many feeds can be taken back, and take them back."""
        for count in range(len(fed), 0, -1):
            self.same_point(player, fed[:count])
            player.undo()
        self.same_point(player, [])
        self.fails(NothingToUndo, player.undo)


class FeedTest(PlayerCase):
    def test_the_example_of_the_document(self):
        player = Player(filled(2))
        first = [str(player.feed(5)), str(player.feed(6)), player.time]
        player.undo()
        self.assertEqual(first + [str(player.feed(7))],
                         ["((Number(5), Number(0)),)", "((Number(6), Number(0)),)", 2, "((Number(7), Number(0)),)"])

    def test_all_pieces_are_the_run(self):
        chance = random.Random(51)
        for text in TEXTS:
            net = Net.read(text)
            samples = columns(chance, net, chance.choice((6, 9, 14)))
            player = Player(net)
            self.same(player.time, 0)
            pieces = []
            for count, numbers in enumerate(samples, 1):
                pieces.append(player.feed(*numbers))
                self.same(player.time, count)
                self.equal(player.net, net)
            whole = joined_up(net, pieces)
            self.assertEqual(whole, run(net, *rows_of(net, samples)))
            self.assertEqual(fractions(whole), net_in(text).run(*rows_of(net, samples)))

    def test_what_each_feed_returns(self):
        chance = random.Random(52)
        for text in TEXTS:
            net, other = Net.read(text), net_in(text)
            player = Player(net)
            for time in range(8):
                before, after = other.counts(time), other.counts(time + 1)
                shown = player.feed(*some_numbers(chance, len(net.inputs)))
                self.assertIs(shown.__class__, tuple)
                self.assertEqual([len(row) for row in shown], [late - early for early, late in zip(before, after)])
                for row in shown:
                    self.assertIs(row.__class__, tuple)
                    self.assertTrue(all(number.__class__ is Number for number in row))

    def test_times_without_samples(self):
        player = Player(thinned(3))
        self.assertEqual([str(player.feed(number)) for number in (4, 5, 6, 7)],
                         ["((Number(4),),)", "((),)", "((),)", "((Number(7),),)"])
        player = Player(Net.read("input x\ny = spread(every(x, 3), 2)\noutput y\noutput x"))
        self.assertEqual([str(player.feed(number)) for number in (4, 5, 6, 7)],
                         ["((Number(4),), (Number(4),))", "((Number(0),), (Number(5),))", "((), (Number(6),))",
                          "((Number(7),), (Number(7),))"])

    def test_no_net(self):
        for value in no_nets():
            self.fails(NotANet, lambda: Player(value), value=value)
            self.fails(NotANet, lambda: Player(net=value), value=value)
        self.assertEqual(Player(net=joined()).time, 0)

    def test_wrong_samples(self):
        for text in ("input x\ny = sum(x, late(y, 1))\noutput y", TWO, "input a\ninput b\ninput c\noutput a"):
            net = Net.read(text)
            many = len(net.inputs)
            fed = [tuple(range(many)), tuple(range(5, many + 5))]
            player = Player(net)
            for samples in fed:
                player.feed(*samples)
            for count in range(6):
                if count != many:
                    self.fails(InvalidSamples, lambda: player.feed(*[1] * count), index=None)
                    self.fails(InvalidSamples, lambda: player.feed(*["x"] * count), index=None)
            for value in plain_values() + signal_values() + [net, (1, 2), Player(net)]:
                for at in range(many):
                    samples = [1] * at + [value] * (many - at)
                    self.fails(InvalidSamples, lambda: player.feed(*samples), index=at)
                    samples = [1] * at + [value] + [2] * (many - at - 1)
                    self.fails(InvalidSamples, lambda: player.feed(*samples), index=at)
            self.same_past(player, fed)

    def test_integers_and_numbers(self):
        player = Player(Net.read(TWO))
        for samples, shown in (((1, Number(1, 2)), "((Number(1),), (Number(1/2),))"),
                               ((Number(-4, 2), 10 ** 39), f"((Number(-3/2),), (Number({10 ** 39}),))"),
                               ((0, Number(0)), f"((Number({10 ** 39}),), (Number(0),))")):
            self.assertEqual(str(player.feed(*samples)), shown)


class UndoTest(PlayerCase):
    def test_to_the_beginning(self):
        chance = random.Random(53)
        for text in TEXTS:
            net = Net.read(text)
            player = Player(net)
            self.fails(NothingToUndo, player.undo)
            fed = columns(chance, net, 7)
            for samples in fed:
                player.feed(*samples)
            self.same(player.undo(), None)
            player.feed(*fed[-1])
            self.same_past(player, fed)
            fresh = Player(net)
            self.assertEqual([player.feed(*samples) for samples in fed], [fresh.feed(*samples) for samples in fed])

    def test_there_and_back(self):
        chance = random.Random(54)
        for net in (joined(), halves(), held(3), running_sum(), Net.read(TWO)):
            player, fed = Player(net), []
            for _ in range(60):
                if chance.random() < 0.4 and fed:
                    player.undo()
                    fed.pop()
                else:
                    fed.append(some_numbers(chance, len(net.inputs)))
                    player.feed(*fed[-1])
                self.same_point(player, fed)
            self.same_past(player, fed)

    def test_a_refused_feed_is_none_that_can_be_taken_back(self):
        player = Player(running_sum())
        self.fails(InvalidSamples, lambda: player.feed("1"), index=0)
        self.fails(NothingToUndo, player.undo)
        player.feed(1)
        self.fails(InvalidSamples, lambda: player.feed(True), index=0)
        player.undo()
        self.fails(NothingToUndo, player.undo)
        self.same(player.time, 0)


class CopyTest(PlayerCase):
    def test_the_same_point_without_a_past(self):
        chance = random.Random(55)
        for text in TEXTS[:60]:
            net = Net.read(text)
            player = Player(net)
            fed = columns(chance, net, 5)
            for samples in fed:
                player.feed(*samples)
            copy = player.copy()
            self.assertIs(copy.__class__, Player)
            self.equal(copy.net, net)
            self.same(copy.time, 5)
            self.fails(NothingToUndo, copy.undo)
            self.same_point(copy, fed)
            more = columns(chance, net, 3)
            self.assertEqual([copy.feed(*samples) for samples in more], [player.feed(*samples) for samples in more])
            self.same(copy.time, 8)
            for count in (2, 1, 0):
                copy.undo()
                self.same_point(copy, fed + more[:count])
            self.fails(NothingToUndo, copy.undo)
            self.same_past(player, fed + more)

    def test_neither_changes_the_other(self):
        player = Player(running_sum())
        player.feed(3)
        copy = player.copy()
        player.feed(4)
        player.undo()
        player.undo()
        self.assertEqual((copy.time, player.time), (1, 0))
        self.assertEqual(str(copy.feed(1)), "((Number(4),),)")
        self.assertEqual(str(player.feed(1)), "((Number(1),),)")
        other = copy.copy()
        copy.feed(5)
        self.assertEqual((other.time, copy.time, str(other.feed(0))), (2, 3, "((Number(4),),)"))

    def test_equal_only_to_itself(self):
        player = Player(joined())
        self.equal(player, player)
        for value in [player.copy(), Player(joined()), joined(), *plain_values(), *number_values(), *signal_values()]:
            self.unequal(player, value)


class TrialTest(PlayerCase):
    def player(self, net, many):
        chance = random.Random(many)
        fed = columns(chance, net, many)
        player = Player(net)
        for samples in fed:
            player.feed(*samples)
        return player, fed

    def deeds(self):
        """What may be done to a player that was fed three times."""
        def back(player):
            player.undo()
            player.undo()
            player.undo()

        def exchange(player):
            player.undo()
            player.feed(*[77] * len(player.net.inputs))

        def all_anew(player):
            back(player)
            for _ in range(5):
                player.feed(*[-9] * len(player.net.inputs))

        def once(player):
            player.feed(*[5] * len(player.net.inputs))

        return [back, exchange, all_anew, once, lambda player: None, lambda player: player.undo(),
                lambda player: player.copy().feed(*[1] * len(player.net.inputs))]

    def test_blocks(self):
        for net in (joined(), held(4), running_sum(), Net.read(TWO)):
            for deed in self.deeds():
                player, fed = self.player(net, 3)
                with Trial(player) as same:
                    self.assertIs(same, player)
                    deed(same)
                self.same_past(player, fed)

    def test_blocks_that_end_with_an_error(self):
        for net in (joined(), held(4), running_sum(), Net.read(TWO)):
            for deed in self.deeds():
                player, fed = self.player(net, 3)
                error = Failed()
                with self.assertRaises(Failed) as caught:
                    with Trial(player=player) as same:
                        deed(same)
                        raise error
                self.assertIs(caught.exception, error)
                self.same_past(player, fed)

    def test_errors_of_the_player(self):
        player, fed = self.player(running_sum(), 2)

        def wrong():
            with Trial(player):
                player.feed(1)
                player.feed("1")
        self.fails(InvalidSamples, wrong, index=0)

        def beyond():
            with Trial(player):
                for _ in range(3):
                    player.undo()
        self.fails(NothingToUndo, beyond)
        self.same_past(player, fed)

    def test_other_ends_of_a_block(self):
        player, fed = self.player(joined(), 3)

        def returns():
            with Trial(player) as same:
                same.feed(1)
                return "there"
        self.assertEqual(returns(), "there")
        for at in range(3):
            with Trial(player) as same:
                same.feed(at)
                if at == 1:
                    break
        self.same_past(player, fed)

    def test_blocks_inside_blocks(self):
        player, fed = self.player(joined(), 3)
        with Trial(player) as outer:
            outer.undo()
            outer.feed(8)
            with Trial(player) as inner:
                inner.undo()
                inner.undo()
                inner.feed(9)
            self.same_point(player, fed[:2] + [(8,)])
            player.feed(1)
            self.same_point(player, fed[:2] + [(8,), (1,)])
            with Trial(player):
                player.feed(3)
            player.undo()
            self.same_point(player, fed[:2] + [(8,)])
        self.same_past(player, fed)

    def test_the_block_begins_where_it_stands(self):
        player, fed = self.player(running_sum(), 1)
        trial = Trial(player)
        player.feed(5)
        with trial as same:
            same.feed(6)
            same.undo()
            same.undo()
        self.same_past(player, fed + [(5,)])

    def test_going_on_behind_a_block(self):
        player, fed = self.player(joined(), 3)
        with Trial(player):
            player.feed(100)
        player.feed(1)
        self.same_past(player, fed + [(1,)])

    def test_no_player(self):
        for value in no_nets() + [joined(), Trial(Player(joined()))]:
            self.fails(NotAPlayer, lambda: Trial(value), value=value)
            self.fails(NotAPlayer, lambda: Trial(player=value), value=value)
            self.fails(NotAPlayer, lambda: tried(value, len), value=value)
            self.fails(NotAPlayer, lambda: tried(deed=self.never, player=value), value=value)

    def never(self, value):
        self.fail(f"called with {value!r}")

    def test_tried(self):
        for net in (joined(), held(4), running_sum(), Net.read(TWO)):
            for deed in self.deeds():
                player, fed = self.player(net, 3)
                seen = []

                def call(given):
                    seen.append(given)
                    deed(given)
                    return seen
                self.assertIs(tried(player, call), seen)
                self.assertEqual(len(seen), 1)
                self.assertIs(seen[0], player)
                self.same_past(player, fed)

    def test_tried_with_an_error(self):
        player, fed = self.player(joined(), 3)
        error = Failed()

        def deed(given):
            given.undo()
            given.feed(7)
            raise error
        for call in (lambda: tried(player, deed), lambda: tried(deed=deed, player=player)):
            with self.assertRaises(Failed) as caught:
                call()
            self.assertIs(caught.exception, error)
        self.assertEqual(tried(player, lambda given: given.feed(1)), tried(player, lambda given: given.feed(1)))
        self.assertEqual(tried(player, lambda given: tried(given, lambda again: again.time)), 3)
        self.same_past(player, fed)


if __name__ == "__main__":
    unittest.main()
