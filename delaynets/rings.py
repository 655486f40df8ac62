"""Which names need which at the same moment."""

from delaynets.errors import RingWithoutDelay
from delaynets.signals import Late, Name


def in_order(definitions):
    """The defined names, each one behind those that it uses without delay."""
    uses = {name: [used for used in _used_at_once(definitions[name]) if used in definitions] for name in definitions}
    done = {}
    waiting = list(definitions)
    while waiting:
        ready = [name for name in waiting if all([used in done for used in uses[name]])]
        if not ready:
            raise RingWithoutDelay(_ring(uses, done, waiting[0]))
        for name in ready:
            done[name] = True
        waiting = [name for name in waiting if name not in done]
    return list(done)


def _used_at_once(signal):
    """The names in an expression at places that are not inside a delay."""
    if isinstance(signal, Name):
        return [str(signal)]
    if isinstance(signal, Late) and signal.amount > 0:
        return []
    return [name for inner in signal.inside for name in _used_at_once(inner)]


def _ring(uses, done, start):
    """A ring that is come upon from a name; each name that is not done uses another such name."""
    path = []
    name = start
    while name not in path:
        path.append(name)
        name = [used for used in uses[name] if used not in done][0]
    return tuple(path[path.index(name):])
