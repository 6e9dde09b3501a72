"""Standings of dolls, and the moves that lead from one to another."""

from nestdolls.errors import NoMove

MOST_DOLLS = 6


def is_whole(thing):
    """Whether a thing is a whole number; True and False are none."""
    return isinstance(thing, int) and not isinstance(thing, bool)


def is_rising(things):
    """Whether things that can be compared are in order, none twice."""
    return all(lower < upper for lower, upper in zip(things, things[1:]))


def is_stack(thing):
    """Whether a thing is a rising tuple of whole numbers, at least one."""
    if not isinstance(thing, tuple) or len(thing) == 0:
        return False
    # Only whole numbers can safely be compared, so the order is asked last.
    return all(is_whole(doll) for doll in thing) and is_rising(thing)


def is_standing(thing):
    """Whether a thing, which may be anything, is a standing of one to six dolls."""
    if not isinstance(thing, tuple) or not all(is_stack(stack) for stack in thing):
        return False
    dolls = dolls_of(thing)
    many = len(dolls)
    if many < 1 or many > MOST_DOLLS:
        return False
    return dolls == list(range(1, many + 1)) and is_rising(thing)


def dolls_of(standing):
    """All dolls of a standing, in order."""
    return sorted([doll for stack in standing for doll in stack])


def standings(many):
    """All standings of many dolls, rising; none where many is not from 1 to 6."""
    if many < 1 or many > MOST_DOLLS:
        return []
    told = [()]
    for doll in range(1, many + 1):
        told = [grown for standing in told for grown in grown_by(standing, doll)]
    return sorted(told)


def standings_beside(standing, spots):
    """All standings of as many dolls as a standing, with no more stacks than spots, rising."""
    return [other for other in standings(len(dolls_of(standing))) if len(other) <= spots]


def grown_by(standing, doll):
    """All ways to add a doll greater than all others, as the last of a stack or alone."""
    # The least dolls of the stacks stay as they are, so the stacks stay in order.
    ways = [(*standing, (doll,))]
    for at, stack in enumerate(standing):
        ways.append(standing[:at] + ((*stack, doll),) + standing[at + 1:])
    return ways


def within(standing, doll):
    """The dolls within a doll of a standing, rising."""
    for stack in standing:
        if doll in stack:
            return stack[:stack.index(doll)]
    return ()


def moves(standing, spots):
    """The moves of a standing that can be done with so many spots, rising."""
    told = nestings(standing)
    # An opening makes one stack more, and that one needs a spot.
    if len(standing) < spots:
        told.extend(openings(standing))
    return sorted(told)


def openings(standing):
    """The openings of all dolls on spots that are not empty."""
    return [("open", stack[-1]) for stack in standing if len(stack) > 1]


def nestings(standing):
    """The nestings of all dolls on spots into greater empty ones."""
    lasts = [stack[-1] for stack in standing]
    empties = [stack[-1] for stack in standing if len(stack) == 1]
    return [("nest", doll, into) for doll in lasts for into in empties if doll < into]


def can_be_done(standing, spots, thing):
    """Whether a thing, which may be anything, is one of the moves told of a standing."""
    if not isinstance(thing, tuple) or len(thing) == 0:
        return False
    # True equals 1, so the told moves alone would take it for a doll.
    if not isinstance(thing[0], str) or not all(is_whole(doll) for doll in thing[1:]):
        return False
    return thing in moves(standing, spots)


def after(standing, move):
    """The standing behind a move that can be done."""
    inner = within(standing, move[1])
    rest = [stack for stack in standing if stack[-1] not in move[1:]]
    if move[0] == "open":
        return tuple(sorted([*rest, inner, (move[1],)]))
    return tuple(sorted([*rest, inner + move[1:]]))


def behind(standing, spots, move):
    """The standing behind a move; NoMove of anything that is none."""
    return led(standing, spots, [move])


def led(standing, spots, row):
    """The standing behind all moves of a row, one by one; NoMove at the first that is none."""
    here = standing
    for at, move in enumerate(row):
        if not can_be_done(here, spots, move):
            raise NoMove(at)
        here = after(here, move)
    return here
