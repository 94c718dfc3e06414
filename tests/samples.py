"""Works, wrong things and a slow second opinion for the tests."""

from copy import deepcopy
from itertools import combinations, product


class Tripwire:
    """A thing of a foreign kind that fails whoever compares, measures or iterates it."""

    def _trip(self, *_):
        raise RuntimeError("touched")

    __eq__ = __ne__ = __lt__ = __le__ = __gt__ = __ge__ = _trip
    __hash__ = __len__ = __iter__ = __getitem__ = __bool__ = _trip
    __index__ = __int__ = __contains__ = __call__ = __repr__ = _trip


# Things that are neither a tuple nor a whole number, whatever is asked for.
FOREIGN = [
    None, True, False, 1.0, 0.0, float("nan"), 1j, "", "0", "work", "sum", b"", b"\x00", [], [0], [[]],
    {}, {0: 1}, set(), {0, 1}, frozenset(), range(2), object(), int, tuple, len, lambda: 0, iter(()),
    Ellipsis, NotImplemented, ValueError("no"), Tripwire(), bytearray(b"a"), slice(1),
]

# Things that are no whole number from 0 on.
NO_NUMBERS = FOREIGN + [-1, -2, -(10 ** 30), 10 ** 30, (), (0,), ((0,),)]


def small_work():
    """Ring 3, inputs on lines 0 and 1, one part of each word on lines 2 to 5."""
    return (3, 2, [("sum", 0, 1), ("stop", 2, 0), ("pick", 3, 1, 2), ("not", 4)])


def sample_works():
    """Works at the edges, and ordinary ones."""
    return [
        small_work(),
        (2, 1, [("not", 0)]),
        (5, 1, [("sum", 0, 0)]),
        (2, 6, [("pick", 5, 0, 5), ("sum", 6, 6), ("stop", 7, 7)]),
        (3, 1, [("pick", 0, 0, 0), ("stop", 1, 1), ("sum", 2, 2), ("not", 3)]),
        (4, 2, [("stop", 0, 1), ("not", 2), ("pick", 2, 3, 0), ("sum", 4, 3)]),
        (5, 2, [("not", 0), ("pick", 2, 1, 0), ("stop", 3, 2)]),
        (2, 2, [("sum", 0, 1), ("not", 2), ("not", 0), ("pick", 4, 3, 2), ("stop", 5, 3), ("sum", 5, 6)]),
        (2, 1, [("not", line) for line in range(10)]),
        (2, 3, [("sum", 0, 1), ("sum", 3, 2), ("stop", 3, 0), ("pick", 4, 5, 1), ("not", 6),
                ("sum", 5, 7), ("stop", 8, 4), ("pick", 9, 9, 3), ("not", 10), ("sum", 10, 11)]),
    ]


def all_sets(work):
    """All sets of parts of a work."""
    numbers = range(len(work[2]))
    return [chosen for many in range(len(work[2]) + 1) for chosen in combinations(numbers, many)]


def part_rule(ring, word, taken):
    """What a part should give, written apart from the program."""
    if word == "sum":
        total = taken[0] + taken[1]
        return total - ring if total >= ring else total
    if word == "stop":
        return 0 if taken[1] else taken[0]
    if word == "pick":
        return taken[2] if taken[0] else taken[1]
    assert word == "not"
    return ring - 1 - taken[0]


def slow_rows(work, look, broken):
    """All digits of all lines that fit the look with the set broken, least first."""
    ring, inputs, parts = work
    given, seen = look
    fitting = []
    for rest in product(range(ring), repeat=len(parts)):
        row = given + rest
        if any(row[line] != digit for line, digit in seen):
            continue
        if all(number in broken or row[inputs + number] == part_rule(ring, part[0], [row[a] for a in part[1:]])
               for number, part in enumerate(parts)):
            fitting.append(row)
    return fitting


def random_work(chance):
    """An ordinary work, small enough for the second opinion."""
    ring = chance.choice([2, 2, 3, 3, 4, 5])
    inputs = chance.randint(1, 6)
    many = chance.randint(1, {2: 8, 3: 6, 4: 5, 5: 4}[ring])
    parts = []
    for number in range(many):
        word, takes = chance.choice([("sum", 2), ("stop", 2), ("pick", 3), ("not", 1)])
        parts.append((word, *[chance.randrange(inputs + number) for _ in range(takes)]))
    return (ring, inputs, parts)


def some_looks(work, pick):
    """A few looks at a work: none, one, some and all of its lines seen; pick(n) chooses below n."""
    ring, inputs, parts = work
    lines = range(inputs, inputs + len(parts))
    looks = []
    for odds in (0, 1, 2, 3, 4):
        given = tuple(pick(ring) for _ in range(inputs))
        seen = tuple((line, pick(ring)) for line in lines if pick(4) < odds)
        looks.append((given, seen))
    looks.append(((0,) * inputs, ((lines[-1], 0),)))
    looks.append(((ring - 1,) * inputs, ((lines[-1], ring - 1),)))
    return looks


def wrong_sets(work):
    """Things that are no set of parts of a work with two parts or more."""
    many = len(work[2])
    wrong = list(FOREIGN) + [0, 1, -1]
    wrong += [(thing,) for thing in NO_NUMBERS]
    wrong += [(0, thing) for thing in NO_NUMBERS]
    wrong += [(many,), (0, many), (1, 0), (0, 0), (0, 1, 1), (1, 1), tuple(range(many + 1)), [0, 1], [()]]
    wrong += [(many - 1, 0), (0, 1, 0), (-1, 0), ((0, 1),)]
    return wrong


def wrong_givens(work):
    """Things that are no inputs of a work."""
    ring, inputs, _ = work
    wrong = list(FOREIGN) + [0, 1, -1, (), (0,) * (inputs - 1), (0,) * (inputs + 1), [0] * inputs, ((0,) * inputs,)]
    for at in range(inputs):
        for thing in NO_NUMBERS + [ring, ring + 1]:
            wrong.append((0,) * at + (thing,) + (0,) * (inputs - at - 1))
    return wrong


def wrong_looks(work):
    """Things that are no look at a work with two parts or more."""
    ring, inputs, parts = work
    given = (0,) * inputs
    end = inputs + len(parts)
    wrong = list(FOREIGN) + [0, -1, (), (given,), given, [given, ()], (given, (), ())]
    wrong += [(thing, ()) for thing in wrong_givens(work)]
    wrong += [(thing, ((inputs, 0),)) for thing in wrong_givens(work)]
    wrong += [(given, thing) for thing in FOREIGN + [0, 1, -1]]
    pairs = list(FOREIGN) + [0, inputs, (), (inputs,), (inputs, 0, 0), [inputs, 0], ((inputs, 0),)]
    pairs += [(thing, 0) for thing in NO_NUMBERS + list(range(inputs)) + [end, end + 1]]
    pairs += [(inputs, thing) for thing in NO_NUMBERS + [ring, ring + 1]]
    wrong += [(given, (pair,)) for pair in pairs]
    wrong += [(given, (pair, (end - 1, 0))) for pair in pairs]
    wrong += [(given, ((inputs, 0), pair)) for pair in pairs]
    wrong += [(given, [(inputs, 0)]), (given, {inputs: 0}), (given, (inputs, 0))]
    wrong += [(given, ((inputs + 1, 0), (inputs, 0))), (given, ((inputs, 0), (inputs, 0))),
              (given, ((inputs, 0), (inputs, 1))), (given, ((inputs, 0), (inputs + 1, 0), (inputs + 1, 0)))]
    return wrong


def wrong_lines(work):
    """Things that are no line of a work."""
    end = work[1] + len(work[2])
    return NO_NUMBERS + [end, end + 1]


def wrong_works():
    """Things that are no work."""
    part = ("not", 0)
    wrong = list(FOREIGN) + [0, 3, (), (3,), (3, 1), (3, 1, [part], 0), [3, 1, [part]], ((3, 1, [part]),)]
    wrong += [(thing, 1, [part]) for thing in NO_NUMBERS + [0, 1, 6, 7]]
    wrong += [(3, thing, [part]) for thing in NO_NUMBERS + [0, 7, 8]]
    wrong += [(3, 1, thing) for thing in FOREIGN if thing.__class__ is not list]
    wrong += [(3, 1, thing) for thing in ([], (part,), part, {0: part}, [part] * 11, [[]], [0], 0)]
    parts = [thing for thing in FOREIGN] + [0, (), ("not",), ("not", 0, 0), ["not", 0], ("sum", 0), ("sum", 0, 0, 0),
                                           ("stop", 0), ("stop", 0, 0, 0), ("pick", 0, 0), ("pick", 0, 0, 0, 0),
                                           ("sum", (0, 0)), ("not", [0]), (0, "not"), (("not", 0),), "not"]
    parts += [(word, 0) for word in FOREIGN + [0, ("not",), "Not", "NOT", "not ", " not", "no", "nott"]]
    parts += [(word, 0, 0) for word in ["Sum", "add", "and", "or", "xor", "sums", "stops", "Stop", "", "pick", None]]
    parts += [(word, 0, 0, 0) for word in ["Pick", "choose", "picks", "", ["pick"], 3]]
    for thing in NO_NUMBERS:
        parts += [("not", thing), ("sum", thing, 0), ("sum", 0, thing), ("stop", thing, 0), ("stop", 0, thing),
                  ("pick", thing, 0, 0), ("pick", 0, thing, 0), ("pick", 0, 0, thing)]
    # Line 1 is the part's own line, line 2 one behind it.
    for line in (1, 2):
        parts += [("not", line), ("sum", line, 0), ("stop", 0, line), ("pick", 0, 0, line), ("pick", 0, line, 0)]
    wrong += [(3, 1, [thing]) for thing in parts]
    wrong += [(3, 1, [part, ("not", 2)]), (3, 1, [("not", 1), part]), (3, 1, [part, part, ("sum", 0, 3)]),
              (3, 1, [part] * 9 + [("not", 10)]), (3, 6, [("not", 6)]), (3, 1, [part, 0]), (3, 1, [part, None])]
    return wrong


def called(function, *handed):
    """What a call tells, once it is sure that nothing that was handed in has changed."""
    before = deepcopy(handed)
    told = function(*handed)
    assert handed == before and repr(handed) == repr(before), "what was handed in was changed"
    return told
