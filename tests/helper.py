"""What the tests share: a second way to reckon all that is told, and odd things.

Nothing here calls the program. A standing is seen as a dict from each doll to
the doll right around it, None for one on a spot.
"""

import functools
import itertools
import math
import random


def all_standings(many):
    """Each doll chooses one of many heaps; the heaps that are not empty are stacks."""
    found = set()
    for heaps in itertools.product(range(many), repeat=many):
        stacks = [tuple(doll for doll in range(1, many + 1) if heaps[doll - 1] == heap) for heap in range(many)]
        found.add(tuple(sorted(stack for stack in stacks if stack)))
    return sorted(found)


ALL = {many: all_standings(many) for many in range(1, 7)}
# A repr tells 1 from True, and a list from a tuple, where == does not or need not.
SHOWN = {repr(standing) for many in ALL for standing in ALL[many]}


def around(standing):
    told = {}
    for stack in standing:
        for doll, outer in zip(stack, (*stack[1:], None)):
            told[doll] = outer
    return told


def standing_of(outer):
    stacks = []
    for doll in outer:
        if outer[doll] is None:
            stack = [doll]
            while inner := [d for d in outer if outer[d] == stack[0]]:
                stack[:0] = inner
            stacks.append(tuple(stack))
    return tuple(sorted(stacks))


@functools.lru_cache(maxsize=None)
def steps(standing, spots):
    """A dict from each move that can be done to the standing behind it."""
    outer = around(standing)
    on_spots = [doll for doll in outer if outer[doll] is None]
    told = {}
    for doll in on_spots:
        for inner in [d for d in outer if outer[d] == doll]:
            if len(on_spots) + 1 <= spots:
                told[("open", doll)] = standing_of({**outer, inner: None})
        for into in on_spots:
            if doll < into and into not in outer.values():
                told[("nest", doll, into)] = standing_of({**outer, doll: into})
    return told


def cases(most=6):
    """Each standing of at most so many dolls, with each number of spots that it is let by."""
    for many in range(1, most + 1):
        for standing in ALL[many]:
            for spots in range(len(standing), many + 1):
                yield standing, spots


def walk(standing, spots, length, seed):
    """A row of so many moves, and the standing behind it; the same for the same seed."""
    chance = random.Random(seed)
    row = []
    for _ in range(length):
        ahead = steps(standing, spots)
        move = chance.choice(sorted(ahead))
        row.append(move)
        standing = ahead[move]
    return row, standing


@functools.lru_cache(maxsize=None)
def graph(many, spots):
    """A dict from each standing of at most so many stacks, rising, to its steps."""
    return {standing: steps(standing, spots) for standing in ALL[many] if len(standing) <= spots}


def count(standing):
    return sum(len(stack) for stack in standing)


def flood(standing, spots):
    """All standings to which one comes."""
    found = {standing}
    edge = [standing]
    while edge:
        edge = [there for here in edge for there in steps(here, spots).values() if there not in found]
        found.update(edge)
    return found


def price(move, prices):
    kind, *dolls = move
    return prices[dolls[0 if kind == "open" else 1] - 1]


def best_rows(goal, spots, prices):
    """A dict from each standing that comes to a goal to (toil, length, row) of the best row.

    Rows are made better from the goal backwards, till none can be made better.
    """
    best = {goal: (0, 0, [])}
    better = True
    while better:
        better = False
        for here, ahead in graph(count(goal), spots).items():
            for move, there in ahead.items():
                if there in best:
                    toil, length, row = best[there]
                    offer = (toil + price(move, prices), length + 1, [move, *row])
                    if here not in best or offer < best[here]:
                        best[here] = offer
                        better = True
    return best


def plain_rows(standing, spots, seen=()):
    """Each row from a standing that comes to no standing twice, with the standing behind it."""
    yield [], standing
    for move, there in steps(standing, spots).items():
        if there not in seen and there != standing:
            for row, end in plain_rows(there, spots, (*seen, standing)):
                yield [move, *row], end


def is_paper(goal, spots, prices, thing):
    """Whether a tuple, list or other thing is a paper to a goal, by its edges."""
    ahead = graph(count(goal), spots)
    if type(thing) is not tuple or any(type(row) is not tuple or len(row) != 2 for row in thing):
        return False
    if [repr(row[0]) for row in thing] != [repr(standing) for standing in ahead]:
        return False
    if any(number is not None and type(number) is not int for _, number in thing):
        return False
    numbers = {here: math.inf if number is None else number for here, number in thing}
    return numbers[goal] <= 0 and all(
        numbers[here] <= price(move, prices) + numbers[there]
        for here in ahead if here != goal for move, there in ahead[here].items()
    )


def is_fencing(standing, other, spots, posts):
    """Whether a tuple of standings is a fence."""
    if list(posts) != sorted(set(posts)) or any(count(post) != count(standing) for post in posts):
        return False
    if standing not in posts or other in posts or any(len(post) > spots for post in posts):
        return False
    return all(there in posts for post in posts for there in steps(post, spots).values())


def all_orders(standing):
    """All orders, rising."""
    outer = around(standing)
    return [
        order for order in itertools.permutations(sorted(outer))
        if all(outer[doll] is None or outer[doll] in order[:at] for at, doll in enumerate(order))
    ]


def wait(order, prices, chances):
    return sum(
        chances[doll - 1] * sum(prices[ahead - 1] for ahead in order[:at + 1]) for at, doll in enumerate(order)
    )


def partings(dolls):
    """All ways to part a tuple into tuples, none empty."""
    if not dolls:
        return [()]
    return [(dolls[:end], *rest) for end in range(1, len(dolls) + 1) for rest in partings(dolls[end:])]


def some_numbers(many, low, high, seed):
    chance = random.Random(f"{many} {low} {high} {seed}")
    return tuple(chance.randint(low, high) for _ in range(many))


def some_prices(many):
    """Prices alike and unlike: rising, falling, by chance, few and many alike."""
    told = [(1,) * many, (100,) * many, tuple(range(1, many + 1)), tuple(range(100, 100 - many, -1))]
    told += [some_numbers(many, 1, 2, 0), some_numbers(many, 1, 5, 1), some_numbers(many, 1, 100, 2)]
    return list(dict.fromkeys(told))


def shown(thing):
    """The repr of a thing, which tells 1 from True and lists from tuples, of any depth."""
    try:
        return repr(thing)
    except RecursionError:
        return "too deep"


def deep(kind, levels):
    thing = kind([1])
    for _ in range(levels - 1):
        thing = kind([thing])
    return thing


def any_thing(chance, depth=0):
    """One thing out of what the document calls anything."""
    pick = chance.randrange(9 if depth < 5 else 5)
    if pick == 0:
        return chance.choice([True, False, None])
    if pick in (1, 2):
        return chance.choice([0, 1, 2, 3, 4, 5, 6, 7, -1, 9999999999999, -9999999999999])
    if pick in (3, 4):
        return chance.choice(["", "open", "nest", "1", " ~\n", "x" * 400])
    inner = [any_thing(chance, depth + 1) for _ in range(chance.randrange(4))]
    return inner if pick == 5 else tuple(inner)


class Sour:
    """Refuses to be compared, hashed, counted or asked for its truth."""

    def refuse(self, *rest):
        raise RuntimeError("touched")

    __eq__ = __lt__ = __gt__ = __hash__ = __len__ = __bool__ = __iter__ = refuse


# Beyond "anything" a refusal, or True or False, is still promised.
BEYOND = [
    1.0, float("nan"), 1j, b"open", {}, {1: 2}, set(), {1}, frozenset([1]), range(1, 3), object(), Sour(), int, len,
    10 ** 50, "x" * 5000, (1,) * 5000, deep(tuple, 3000), ((1.0,),), ((1,), (2.0,)), (Sour(),), ((Sour(),),),
    ((1, Sour()),), ("open", Sour()), ("open", 2.0), ("nest", 1.0, 2), ("nest", 1, Sour()), (Sour(), 2),
    (b"open", 2), ("open", [2]), ("open", {2}), {"open": 2},
]
ANYTHING = [
    0, 1, -1, 7, 9999999999999, True, False, None, "", "open", "nest", "((1,),)", "x" * 400, "\n", [], (), [[]], ((),),
    [()], ([],), [1], (1,), ([1],), [(1,)], [[1]], (((1,),),), ((True,),), ((False,),), ((None,),), (("1",),), ("1",),
    ((0,),), ((0, 1),), ((2,),), ((-1,),), ((1,), None), ((1,), 2), ((1,), "2"), ((1,), (None,)), ((1,), (2, None)),
    ((1,),) * 400, (tuple(range(1, 401)),), tuple((doll,) for doll in range(1, 401)),
    deep(tuple, 30), deep(list, 30), ("open",), ("nest",), ("open", None), ("open", "2"), (2, "open"),
    ("open", (2,)), ("nest", 1), ("nest", (1, 2)), ("nest", 1, 2, 3), ("open", 2, None), (None, 2), (True, 2),
]
