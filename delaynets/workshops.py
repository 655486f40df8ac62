"""Workshops: nets under names, with demands on them that always hold."""

from delaynets.alike import alike
from delaynets.endings import settles
from delaynets.errors import BrokenDemand, Busy, InvalidEdit, NotComparable, NothingToUndo, TooLarge, UnknownName
from delaynets.limits import MAX_JOINT
from delaynets.machines import kept_numbers
from delaynets.nets import Net
from delaynets.numbers import is_integer
from delaynets.shifts import keeps_time
from delaynets.telling import told_back

PUT = "put"
REMOVE = "remove"
DEMAND = "demand"
FREE = "free"


class Workshop:
    """Nets under names; what is done to it can be taken back."""

    def __init__(self):
        # A pair for each edit that is not taken back, and one for the beginning: the edit, and the nets behind it.
        # Neither the tuple nor the nets in it are ever changed, so that putting it back is all that it takes.
        self._line = ((None, {}),)
        self._busy = False

    @property
    def names(self):
        """The ascending tuple of the names."""
        return tuple(sorted(list(self._nets())))

    @property
    def history(self):
        """The tuple of the edits that are not taken back."""
        return tuple([edit for edit, _ in self._line[1:]])

    def do(self, edit):
        """Do an edit."""
        self._check_idle()
        if not _is_edit(edit):
            raise InvalidEdit(0)
        self._take(edit)

    def do_all(self, *edits, watch=None):
        """Do all edits, or none; the watch is called right after each one."""
        self._check_idle()
        for index, edit in enumerate(edits):
            if not _is_edit(edit):
                raise InvalidEdit(index)
        before = self._line
        try:
            for index, edit in enumerate(edits):
                self._take(edit)
                if watch is not None:
                    self._busy = True
                    watch(self, index)
                    self._busy = False
            before = None
        finally:
            self._busy = False
            if before is not None:
                self._line = before

    def undo(self):
        """Take back the last edit."""
        self._check_idle()
        if len(self._line) == 1:
            raise NothingToUndo()
        self._line = self._line[:-1]

    def demands(self, name):
        """The tuple of the demands on a net."""
        return self._entry(name)[1]

    def __getitem__(self, at):
        return self._entry(at)[0]

    def __setitem__(self, at, worth):
        self.do((PUT, at, worth))

    def __iter__(self):
        raise TypeError("a workshop cannot be iterated over")

    def __contains__(self, x):
        return isinstance(x, str) and x in self._nets()

    def __len__(self):
        return len(self._nets())

    def __repr__(self):
        return f"Workshop({len(self._nets())} nets)"

    def _nets(self):
        """The nets under their names, each one as a pair with its demands."""
        return self._line[-1][1]

    def _entry(self, name):
        if not isinstance(name, str) or name not in self._nets():
            raise UnknownName(name)
        return self._nets()[name]

    def _check_idle(self):
        if self._busy:
            raise Busy()

    def _take(self, edit):
        nets = dict(self._nets())
        name = edit[1]
        if edit[0] == PUT:
            demands = nets[name][1] if name in nets else ()
            _check_demands(name, edit[2], demands)
            nets[name] = (edit[2], demands)
        elif edit[0] == REMOVE:
            self._entry(name)
            del nets[name]
        else:
            net, demands = self._entry(name)
            if edit[0] == DEMAND:
                _check_demands(name, net, (edit[2],))
                nets[name] = (net, (*demands, edit[2]))
            else:
                nets[name] = (net, _without(name, demands, edit[2]))
        self._line = (*self._line, (edit, nets))


def _without(name, demands, demand):
    """The demands without the first one that is equal to this one."""
    for at, held in enumerate(demands):
        if held == demand:
            return demands[:at] + demands[at + 1:]
    raise BrokenDemand(name, demand)


def _check_demands(name, net, demands):
    for demand in demands:
        if not _meets(net, demand):
            raise BrokenDemand(name, demand)


def _meets(net, demand):
    word = demand[0]
    if word == "settles":
        return settles(net)
    bound = demand[1]
    if word == "keeps time":
        return keeps_time(net, bound)
    if word == "at most":
        return max(kept_numbers(net)) <= bound
    if word == "told back":
        delay = told_back(net)
        return delay is not None and delay <= bound
    try:
        return alike(net, bound)
    except (NotComparable, TooLarge):
        return False


def _is_edit(value):
    if not isinstance(value, tuple) or not 2 <= len(value) <= 3:
        return False
    if not isinstance(value[0], str) or not isinstance(value[1], str):
        return False
    if value[0] == REMOVE:
        return len(value) == 2
    if len(value) != 3:
        return False
    if value[0] == PUT:
        return isinstance(value[2], Net)
    return value[0] in (DEMAND, FREE) and _is_demand(value[2])


def _is_demand(value):
    if not isinstance(value, tuple) or not 1 <= len(value) <= 2 or not isinstance(value[0], str):
        return False
    if len(value) == 1:
        return value[0] == "settles"
    if value[0] == "alike":
        return isinstance(value[1], Net)
    if not is_integer(value[1]):
        return False
    if value[0] == "keeps time":
        return 1 <= value[1] <= MAX_JOINT
    return value[0] in ("at most", "told back") and value[1] >= 0
