"""Things of foreign kinds: those that compare in their own way, and those that tell another class than theirs."""

import weakref


class AlikeAll(type):
    """A kind of classes that are alike to every other one, to Python's own too."""

    def __eq__(cls, other):
        return True

    def __ne__(cls, other):
        return False

    def __hash__(cls):
        return hash(int)


class Unlike(type):
    """A kind of classes that cannot be compared."""

    def _trip(cls, *_):
        raise RuntimeError("compared")

    __eq__ = __ne__ = __hash__ = _trip


def trip(*_):
    """What nobody may call."""
    raise RuntimeError("touched")


KINDS = (type, AlikeAll, Unlike)
BASES = (int, tuple, list, str)
TRIPS = {name: trip for name in (
    "__eq__", "__ne__", "__lt__", "__le__", "__gt__", "__ge__", "__hash__", "__len__", "__iter__", "__getitem__",
    "__contains__", "__bool__", "__index__", "__int__", "__call__", "__repr__", "__str__")}


class Gone:
    """Something that can be referred to weakly."""


def dead_proxy():
    """A proxy of what is gone, which fails whoever asks it for its class."""
    return weakref.proxy(Gone())


def twins(thing):
    """Things with the same worth as a thing of one of Python's own classes, of classes derived from that."""
    base = type(thing)
    return [kind("Twin", (base,), dict(body))(thing) for kind in KINDS for body in ({}, TRIPS)]


def strangers():
    """Things of classes that are not derived from Python's own."""
    bodies = [{}, TRIPS, {"__len__": lambda self: 0, "__iter__": lambda self: iter(()), "__getitem__": lambda *_: ()},
              {"__class__": property(trip)}, {"__getattribute__": trip}]
    bodies += [{"__class__": property(lambda self, base=base: base)} for base in BASES]
    bodies += [{**TRIPS, **body} for body in bodies[3:]]
    return [kind("Stranger", (), dict(body))() for kind in KINDS for body in bodies] + [dead_proxy()]


def spoiled(thing):
    """A thing with the whole of it, or one place in it at any depth, taken by something of a foreign kind."""
    found = twins(thing) + strangers()
    if type(thing) in (tuple, list):
        for at, each in enumerate(thing):
            for wrong in spoiled(each):
                row = list(thing)
                row[at] = wrong
                found.append(type(thing)(row))
    return found
