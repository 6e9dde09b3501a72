"""What the tests share: a second way to reckon standings and moves, and odd things.

Nothing here calls the program. A standing is seen as a dict from each doll to
the doll right around it, None for one on a spot.
"""

import itertools
import random


def all_standings(many):
    """Each doll chooses one of many heaps; the heaps that are not empty are stacks."""
    found = set()
    for heaps in itertools.product(range(many), repeat=many):
        stacks = [tuple(doll for doll in range(1, many + 1) if heaps[doll - 1] == heap) for heap in range(many)]
        found.add(tuple(sorted(stack for stack in stacks if stack)))
    return sorted(found)


ALL = {many: all_standings(many) for many in range(1, 7)}
# A repr tells 1 from True, and a list from a tuple, where == does not or need not.
SHOWN = {repr(standing) for many in ALL for standing in ALL[many]}


def around(standing):
    told = {}
    for stack in standing:
        for doll, outer in zip(stack, (*stack[1:], None)):
            told[doll] = outer
    return told


def standing_of(outer):
    stacks = []
    for doll in outer:
        if outer[doll] is None:
            stack = [doll]
            while inner := [d for d in outer if outer[d] == stack[0]]:
                stack[:0] = inner
            stacks.append(tuple(stack))
    return tuple(sorted(stacks))


def steps(standing, spots):
    """A dict from each move that can be done to the standing behind it."""
    outer = around(standing)
    on_spots = [doll for doll in outer if outer[doll] is None]
    told = {}
    for doll in on_spots:
        for inner in [d for d in outer if outer[d] == doll]:
            if len(on_spots) + 1 <= spots:
                told[("open", doll)] = standing_of({**outer, inner: None})
        for into in on_spots:
            if doll < into and into not in outer.values():
                told[("nest", doll, into)] = standing_of({**outer, doll: into})
    return told


def cases(most=6):
    """Each standing of at most so many dolls, with each number of spots that it is let by."""
    for many in range(1, most + 1):
        for standing in ALL[many]:
            for spots in range(len(standing), many + 1):
                yield standing, spots


def walk(standing, spots, length, seed):
    """A row of so many moves, and the standing behind it; the same for the same seed."""
    chance = random.Random(seed)
    row = []
    for _ in range(length):
        ahead = steps(standing, spots)
        move = chance.choice(sorted(ahead))
        row.append(move)
        standing = ahead[move]
    return row, standing


def deep(kind, levels):
    thing = kind([1])
    for _ in range(levels - 1):
        thing = kind([thing])
    return thing


def any_thing(chance, depth=0):
    """One thing out of what the document calls anything."""
    pick = chance.randrange(9 if depth < 5 else 5)
    if pick == 0:
        return chance.choice([True, False, None])
    if pick in (1, 2):
        return chance.choice([0, 1, 2, 3, 4, 5, 6, 7, -1, 9999999999999, -9999999999999])
    if pick in (3, 4):
        return chance.choice(["", "open", "nest", "1", " ~\n", "x" * 400])
    inner = [any_thing(chance, depth + 1) for _ in range(chance.randrange(4))]
    return inner if pick == 5 else tuple(inner)


class Sour:
    """Refuses to be compared, hashed, counted or asked for its truth."""

    def refuse(self, *rest):
        raise RuntimeError("touched")

    __eq__ = __lt__ = __gt__ = __hash__ = __len__ = __bool__ = __iter__ = refuse


# Beyond "anything" a refusal, or True or False, is still promised.
BEYOND = [
    1.0, float("nan"), 1j, b"open", {}, {1: 2}, set(), {1}, frozenset([1]), range(1, 3), object(), Sour(), int, len,
    10 ** 50, "x" * 5000, (1,) * 5000, deep(tuple, 3000), ((1.0,),), ((1,), (2.0,)), (Sour(),), ((Sour(),),),
    ((1, Sour()),), ("open", Sour()), ("open", 2.0), ("nest", 1.0, 2), ("nest", 1, Sour()), (Sour(), 2),
    (b"open", 2), ("open", [2]), ("open", {2}), {"open": 2},
]
ANYTHING = [
    0, 1, -1, 7, 9999999999999, True, False, None, "", "open", "nest", "((1,),)", "x" * 400, "\n", [], (), [[]], ((),),
    [()], ([],), [1], (1,), ([1],), [(1,)], [[1]], (((1,),),), ((True,),), ((False,),), ((None,),), (("1",),), ("1",),
    ((0,),), ((0, 1),), ((2,),), ((-1,),), ((1,), None), ((1,), 2), ((1,), "2"), ((1,), (None,)), ((1,), (2, None)),
    ((1,),) * 400, (tuple(range(1, 401)),), tuple((doll,) for doll in range(1, 401)),
    deep(tuple, 30), deep(list, 30), ("open",), ("nest",), ("open", None), ("open", "2"), (2, "open"),
    ("open", (2,)), ("nest", 1), ("nest", (1, 2)), ("nest", 1, 2, 3), ("open", 2, None), (None, 2), (True, 2),
]
