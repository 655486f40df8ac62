"""What the outputs of a net show, for given inputs."""

from delaynets.errors import InvalidCount, InvalidInputs, InvalidSamples, NotAPlayer, NothingToUndo
from delaynets.nets import check_net
from delaynets.numbers import Number, as_number, is_integer, is_number
from delaynets.plans import Plan

MAX_INDEX = 200


class Player:
    """A net that is fed with the samples of one time after the other."""

    def __init__(self, net):
        check_net(net)
        self._net = net
        self._plan = Plan(net, Number(0), 1)
        self._begun = 0
        # What was kept before each feed that can be taken back, and what is kept now. The tuple
        # is never changed, only replaced, so that a Trial has no more to do than to put it back.
        self._line = (self._plan.start(),)

    @property
    def net(self):
        """The net."""
        return self._net

    @property
    def time(self):
        """The number of samples fed to each input."""
        return self._begun + len(self._line) - 1

    def feed(self, *samples):
        """Take the samples of the next time, and return what the outputs show until the one after it."""
        if len(samples) != len(self._net.inputs):
            raise InvalidSamples(None)
        for index, sample in enumerate(samples):
            if not is_number(sample):
                raise InvalidSamples(index)
        numbers = [as_number(sample) for sample in samples]
        shown, kept = self._plan.over_piece(self.time, numbers, self._line[-1])
        self._line = (*self._line, kept)
        return shown

    def undo(self):
        """Take back the last feed."""
        if len(self._line) == 1:
            raise NothingToUndo()
        self._line = self._line[:-1]

    def copy(self):
        """Another player at the same point, without a past."""
        other = Player(self._net)
        other._begun = self.time
        other._line = self._line[-1:]
        return other


class Trial:
    """A block at the end of which a player is as it was at the beginning."""

    def __init__(self, player):
        if not isinstance(player, Player):
            raise NotAPlayer(player)
        self._player = player
        self._line = ()

    def __enter__(self):
        self._line = self._player._line
        return self._player

    def __exit__(self, kind, value, trace):
        self._player._line = self._line


def tried(player, deed):
    """What the deed returns for the player, which then is as it was before."""
    with Trial(player) as same:
        return deed(same)


def run(net, *inputs):
    """What the outputs show at the times for which the inputs have samples."""
    check_net(net)
    if len(inputs) != len(net.inputs):
        raise InvalidInputs(None)
    for index, row in enumerate(inputs):
        if not _is_row(row) or len(row) != len(inputs[0]):
            raise InvalidInputs(index)
    player = Player(net)
    return _joined([player.feed(*samples) for samples in zip(*inputs)], len(net.outputs))


def answers(net, source, index, *, until):
    """What the outputs show in one block after the other, if an input has a single 1 at the index."""
    check_net(net)
    if not is_integer(source) or not 0 <= source < len(net.inputs):
        raise InvalidCount(source)
    if not _is_index(index):
        raise InvalidCount(index)
    if not _is_index(until):
        raise InvalidCount(until)
    player = Player(net)
    for _ in range(until):
        pieces = []
        for _ in range(net.period):
            samples = _single(len(net.inputs), source, player.time == index)
            pieces.append(player.feed(*samples))
        yield _joined(pieces, len(net.outputs))


def _is_row(value):
    return isinstance(value, tuple) and all([is_number(sample) for sample in value])


def _is_index(value):
    return is_integer(value) and 0 <= value <= MAX_INDEX


def _single(many, source, is_now):
    """The samples of one time, with a 1 for the source if it comes now."""
    return [1 if number == source and is_now else 0 for number in range(many)]


def _joined(pieces, many):
    """The samples of each of so many outputs, taken from what was shown piece by piece."""
    return tuple([tuple([sample for piece in pieces for sample in piece[at]]) for at in range(many)])
