"""What the spots allow: standings come to, fewest spots, fences, and how dear a doll must be handled."""

from nestdolls.dolls import after, dolls_of, is_rising, is_standing, moves
from nestdolls.rows import cheapest
from nestdolls.toil import price_of


def comes_to(standing, spots):
    """All standings to which one comes with so many spots, itself too, rising."""
    return sorted(cheapest(standing, spots, 0, lambda cost, move, there: cost))


def fewest_spots(standing, other):
    """The fewest spots with which one standing comes to the other."""
    many = len(dolls_of(standing))
    # A row needs as many spots as its standing of most stacks has.
    needed = cheapest(standing, many, len(standing), lambda most, move, there: max(most, len(there)))
    return needed[other]


def fence(standing, other, spots):
    """A fence that keeps one standing from the other, None where there is none."""
    if len(standing) > spots:
        return None
    told = comes_to(standing, spots)
    if other in told:
        return None
    return tuple(told)


def is_fence(standing, other, spots, thing):
    """Whether a thing, which may be anything, is a fence for so many spots and two standings."""
    if not isinstance(thing, tuple) or not all(is_standing(post) for post in thing):
        return False
    if not is_rising(thing) or standing not in thing or other in thing:
        return False
    many = len(dolls_of(standing))
    if not all(len(dolls_of(post)) == many and len(post) <= spots for post in thing):
        return False
    return is_closed(thing, spots)


def is_closed(posts, spots):
    """Whether each move from one of some standings leads to one of them."""
    inside = set(posts)
    for post in posts:
        for move in moves(post, spots):
            if after(post, move) not in inside:
                return False
    return True


def least_dearest(standing, other, spots, prices):
    """The least that the dearest move of a row costs to the other standing, None where no row leads there."""
    dearest = cheapest(standing, spots, 0, lambda most, move, there: max(most, price_of(move, prices)))
    return dearest.get(other)
