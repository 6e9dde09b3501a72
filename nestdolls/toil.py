"""The toil of moves: its floor, the row of least toil, and the paper that no row has less."""

from nestdolls.dolls import after, dolls_of, is_standing, is_whole, moves, standings_beside, within
from nestdolls.rows import cheapest


def unlike(standing, other):
    """The dolls that have not the same within in both standings, rising."""
    return [doll for doll in dolls_of(standing) if within(standing, doll) != within(other, doll)]


def floor(standing, other, prices):
    """The toil that is needed at least from one standing to the other."""
    return sum(prices[doll - 1] * handlings(standing, other, doll) for doll in unlike(standing, other))


def handlings(standing, other, doll):
    """How often a doll that two standings have unlike is handled at least."""
    if within(standing, doll) == () or within(other, doll) == ():
        return 1
    return 2


def price_of(move, prices):
    """The toil of a move: the price of the doll that is opened, or put around."""
    # Both kinds of moves name that doll last.
    return prices[move[-1] - 1]


def toil_of(row, prices):
    """The toil of all moves of a row."""
    return sum(price_of(move, prices) for move in row)


def least_row(standing, other, spots, prices):
    """The first of the shortest of the rows of least toil to the other standing, None where no row leads there."""
    def with_move(cost, move, there):
        toil, length, row = cost
        return toil + price_of(move, prices), length + 1, (*row, move)

    costs = cheapest(standing, spots, (0, 0, ()), with_move)
    if other not in costs:
        return None
    return list(costs[other][2])


def toil_paper(other, spots, prices):
    """The paper to a standing whose numbers are as great as can be: the least toil from each."""
    # A row gone back has the same toil, so the rows from the standing tell those to it.
    toils = cheapest(other, spots, 0, lambda toil, move, there: toil + price_of(move, prices))
    return tuple([(standing, toils.get(standing)) for standing in standings_beside(other, spots)])


def is_toil_paper(other, spots, prices, thing):
    """Whether a thing, which may be anything, is a paper to a standing."""
    if not isinstance(thing, tuple) or not all(is_paper_row(row) for row in thing):
        return False
    listed = [standing for standing, number in thing]
    if listed != standings_beside(other, spots):
        return False
    numbers = {standing: number for standing, number in thing}
    if not is_at_most(numbers.get(other, 0), 0):
        return False
    return all(is_borne_out(here, spots, prices, numbers) for here in listed if here != other)


def is_paper_row(thing):
    """Whether a thing is a pair of a standing and a whole number or None."""
    if not isinstance(thing, tuple) or len(thing) != 2:
        return False
    return is_standing(thing[0]) and (thing[1] is None or is_whole(thing[1]))


def is_borne_out(here, spots, prices, numbers):
    """Whether the number of a standing is at most what each move from there allows."""
    for move in moves(here, spots):
        beyond = numbers[after(here, move)]
        if beyond is not None and not is_at_most(numbers[here], price_of(move, prices) + beyond):
            return False
    return True


def is_at_most(number, bound):
    """Whether a number is at most a bound; None is more than all numbers."""
    return number is not None and number <= bound
