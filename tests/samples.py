"""Machines, stretches, begins and odd things that the tests share, and slow plain oracles beside the program."""

import itertools

WORDS = ("number", "plus", "minus", "times", "less", "pick", "share", "read", "write", "keep", "fetch")

# Words by which places are often reckoned, and met or shown unlike.
PLACING = ("number", "plus", "minus", "times", "read", "write", "plus", "minus", "number", "write", "less", "pick")
# Words by which deeds often wait for one another.
MEETING = WORDS + ("read", "write", "write", "write", "read", "share")


def machine_with(units=(("u", 6),), unit="u", holds=1, comes=1, **own):
    """A machine whose kinds are all alike, but those told by name: kind=(unit, holds, comes)."""
    return (tuple(units), tuple(own.get(word, (unit, holds, comes)) for word in WORDS))


# Each kind has a work of its own, so that no two can be taken for one another.
MIXED = (
    (("alu", 2), ("mul", 1), ("mem", 1), ("shelf", 3)),
    (
        ("alu", 1, 1), ("alu", 1, 2), ("alu", 2, 1), ("mul", 2, 4), ("alu", 2, 2), ("alu", 3, 1),
        ("mul", 4, 6), ("mem", 1, 3), ("mem", 2, 1), ("shelf", 1, 4), ("shelf", 6, 5),
    ),
)

WIDE = machine_with()


def nested(depth, shell):
    """A thing so many deep: shell makes one layer around another thing."""
    thing = 7
    for _ in range(depth):
        thing = shell(thing)
    return thing


ODD = (
    None, True, False, 0, 1, -1, 2, 10 ** 39, -(10 ** 39), "", "a", "plus", "number", "~ \n\t", "x" * 8000,
    (), (0,), (0, 0), (0, 0, 0), (None,), ((),), ((), ()), ((), (), ()), [], [0], [[], [], []], {}, {"a": 1},
    {1: [2, {3: (4,)}]}, (0, (), []), (0, [], ()), [0, (), ()], {0: 0, 1: (), 2: ()},
    nested(70, lambda thing: (thing,)), nested(70, lambda thing: [thing]), nested(70, lambda thing: {"a": thing}),
    nested(70, lambda thing: (thing, ())), nested(69, lambda thing: (0, thing, [])),
    tuple(range(20000)), list(range(20000)), (None,) * 20000, ((),) * 20000, ((0, 0),) * 6000, ("plus",) * 20000,
    {k: k for k in range(10000)}, (0, ((),) * 19000, ()), (tuple(range(10000)), tuple(range(10000))),
)


def swapped(thing, rng, worse):
    """The thing with one part at some depth given up for another one."""
    if isinstance(thing, tuple) and thing and rng.random() < 0.85:
        at = rng.randrange(len(thing))
        return thing[:at] + (swapped(thing[at], rng, worse),) + thing[at + 1:]
    choice = rng.randrange(6)
    if choice == 0 and isinstance(thing, tuple):
        return list(thing)
    if choice == 1 and isinstance(thing, tuple):
        return thing + (rng.choice(worse),)
    if choice == 2 and isinstance(thing, tuple):
        return thing[1:]
    if choice == 3 and isinstance(thing, int):
        return thing + rng.choice((-1, 1, 5))
    return rng.choice(worse)


def named(deed):
    """The worths that a deed names, told word by word."""
    word, *parts = deed
    return {
        "number": [], "fetch": [], "read": parts[:1], "keep": parts[:1], "write": parts[:1] + parts[2:],
    }.get(word, parts)


def step(deed, worths, store, shelf):
    """Does one deed in the oracle's way; raises ZeroDivisionError of a fault."""
    word, *parts = deed
    if word == "number":
        return parts[0]
    if word == "fetch":
        return shelf.get(parts[0], 0)
    if word == "keep":
        shelf[parts[1]] = worths[parts[0]]
        return None
    if word == "read":
        return store.get(worths[parts[0]] + parts[1], 0)
    if word == "write":
        store[worths[parts[0]] + parts[1]] = worths[parts[2]]
        return None
    taken = [worths[part] for part in parts]
    reckon = {
        "plus": lambda a, b: a + b, "minus": lambda a, b: a - b, "times": lambda a, b: a * b,
        "less": lambda a, b: int(a < b), "share": lambda a, b: a // b, "pick": lambda a, b, c: b if a else c,
    }
    return reckon[word](*taken)


def told_store(store):
    return tuple(sorted((place, number) for place, number in store.items() if number))


def run_one_by_one(stretch, begin):
    """(end, worths): the oracle's plain run, and the worths that it came to."""
    givens, deeds, outs = stretch
    worths, store, shelf = list(begin[0]), dict(begin[1]), {}
    for k, deed in enumerate(deeds):
        try:
            worths.append(step(deed, worths, store, shelf))
        except ZeroDivisionError:
            return ("fault", k, told_store(store)), worths
    return ("ended", tuple(worths[out] for out in outs), told_store(store)), worths


def some_stretch(rng, most=12, words=WORDS, givens=None, low=-3, high=3):
    """A stretch by chance; numbers are small so that places often meet and shares are often faults."""
    givens = rng.randrange(0, 4) if givens is None else givens
    known = list(range(givens))
    deeds = []
    for k in range(rng.randrange(most + 1)):
        word = rng.choice(words) if known else rng.choice(("number", "fetch"))
        take = lambda: rng.choice(known)
        number = rng.randint(low, high)
        deed = {
            "number": lambda: (word, number), "fetch": lambda: (word, rng.randrange(3)),
            "read": lambda: (word, take(), number), "write": lambda: (word, take(), number, take()),
            "keep": lambda: (word, take(), rng.randrange(3)), "pick": lambda: (word, take(), take(), take()),
        }.get(word, lambda: (word, take(), take()))()
        deeds.append(deed)
        if word not in ("write", "keep"):
            known.append(givens + k)
    outs = tuple(rng.choice(known) for _ in range(rng.randrange(4))) if known else ()
    return (givens, tuple(deeds), outs)


def some_begin(rng, stretch, low=-3, high=3):
    worths = tuple(rng.randint(low, high) for _ in range(stretch[0]))
    store = {place: rng.randint(-4, 4) for place in range(-6, 7) if rng.random() < 0.5}
    return (worths, told_store(store))


def some_machine(rng):
    names = ["a", "bc", "unitunit", "z"][:rng.randrange(1, 5)]
    units = tuple((name, rng.randint(1, 3)) for name in names)
    works = tuple((rng.choice(names), rng.randint(1, 3), rng.randint(1, 4)) for _ in WORDS)
    return (units, works)


def waits_slowly(machine, stretch, pairs=()):
    """The waits of 7, written as its words stand; pairs are those that papers lift."""
    givens, deeds, outs = stretch
    waits = []
    for i, j in itertools.combinations(range(len(deeds)), 2):
        one, other = deeds[i], deeds[j]
        words = (one[0], other[0])
        if givens + i in named(other):
            waits.append((i, j, machine[1][WORDS.index(one[0])][2]))
            continue
        by_places = words in (("write", "write"), ("write", "read"), ("read", "write")) and (i, j) not in pairs
        by_fault = words in (("share", "share"), ("share", "write"), ("write", "share"))
        by_spot = words in (("keep", "keep"), ("keep", "fetch"), ("fetch", "keep")) and one[-1] == other[-1]
        if by_places or by_fault or by_spot:
            waits.append((i, j, 0))
    return tuple(waits)


def rows_hold_slowly(machine, stretch, rows, pairs=()):
    """The checker of 10, each row gone through."""
    deeds = stretch[1]
    if any(rows[j] - rows[i] < many for i, j, many in waits_slowly(machine, stretch, pairs)):
        return False
    held = {}
    for deed, row in zip(deeds, rows):
        name, holds, _ = machine[1][WORDS.index(deed[0])]
        for at in range(row, row + holds):
            held[name, at] = held.get((name, at), 0) + 1
    many = dict(machine[0])
    return all(held[name, at] <= many[name] for name, at in held)


def some_rows(rng, machine, stretch, pairs=(), slack=2):
    """Rows by chance that hold: each deed as early as it may be, and some rows more."""
    rows = []
    waits = waits_slowly(machine, stretch, pairs)
    for j in range(len(stretch[1])):
        row = max([rows[i] + many for i, at, many in waits if at == j], default=0) + rng.randint(0, slack)
        head = (stretch[0], stretch[1][:j + 1], ())
        while not rows_hold_slowly(machine, head, tuple(rows) + (row,), pairs):
            row += 1
        rows.append(row)
    return tuple(rows)


SHELFLESS = WORDS[:9]
# Words by which the rounds of a loop often wait for one another.
ROUNDING = SHELFLESS + ("read", "write", "share", "plus", "plus", "minus")


def some_loop(rng, most=8, words=ROUNDING, givens=None):
    """A loop by chance: mostly what is carried on are deeds' worths, now and then givens."""
    givens, deeds, _ = some_stretch(rng, most, words, givens=rng.randrange(0, 5) if givens is None else givens)
    deeds = tuple(("number", deed[1]) if deed[0] == "fetch" else deed for deed in deeds)
    known = [worth for worth in range(givens + len(deeds)) if worth < givens or deeds[worth - givens][0] != "write"]
    own = [worth for worth in known if worth >= givens] or known
    return (givens, deeds, tuple(rng.choice(own if rng.random() < 0.7 else known) for _ in range(givens)))


def run_rounds(loop, begin, rounds):
    """The oracle's run of a loop, round by round."""
    givens, deeds, carried = loop
    worths, store = tuple(begin[0]), tuple(begin[1])
    for at in range(rounds):
        end, known = run_one_by_one((givens, deeds, ()), (worths, store))
        if end[0] == "fault":
            return ("fault", at, end[1], end[2])
        worths, store = tuple(known[worth] for worth in carried), end[2]
    return ("ended", worths, store)
