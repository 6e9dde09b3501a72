"""A coin in one of the dolls: the order in which to look so that it is found soonest, and its paper."""

from nestdolls.dolls import dolls_of, is_whole
from nestdolls.errors import NoOrder


def best_order(standing, prices, chances):
    """The first of the orders of least wait."""
    return best_from(standing, prices, chances, {})[1]


def least_wait(standing, prices, chances):
    """The wait of the order of least wait."""
    return best_from(standing, prices, chances, {})[0]


def best_from(left, prices, chances, known):
    """The least wait over the stacks that are left, and the first order that has it.

    known holds what was found of the same stacks before.
    """
    if len(left) == 0:
        return 0, ()
    if left not in known:
        # While a doll is looked into, all that are left wait, that doll too.
        waiting = total(dolls_of(left), chances)
        found = []
        for at, stack in enumerate(left):
            wait, order = best_from(without(left, at), prices, chances, known)
            found.append((wait + waiting * prices[stack[-1] - 1], (stack[-1], *order)))
        known[left] = min(found)
    return known[left]


def without(left, at):
    """The stacks that are left when the last doll of the one at a place has been looked into."""
    inner = left[at][:-1]
    if len(inner) == 0:
        return left[:at] + left[at + 1:]
    return left[:at] + (inner,) + left[at + 1:]


def total(dolls, numbers):
    """The prices, or the chances, of some dolls together."""
    return sum(numbers[doll - 1] for doll in dolls)


def wait_of(standing, prices, chances, order):
    """The wait of an order; NoOrder of anything that is none."""
    if not is_order(standing, order):
        raise NoOrder("each doll once, behind all greater ones of its stack, makes an order")
    return wait_in(order, prices, chances)


def is_order(standing, thing):
    """Whether a thing, which may be anything, is an order in which to look into the dolls of a standing."""
    if not isinstance(thing, tuple) or not all(is_whole(doll) for doll in thing):
        return False
    return sorted(thing) == dolls_of(standing) and all(falls_in(thing, stack) for stack in standing)


def falls_in(order, stack):
    """Whether the dolls of a stack stand in an order from the greatest on."""
    return [doll for doll in order if doll in stack] == from_greatest(stack)


def from_greatest(stack):
    """The dolls of a stack from the greatest on."""
    return list(reversed(stack))


def wait_in(order, prices, chances):
    """The sum, over the dolls of an order, of the chance times the time till it has been looked into."""
    spent = 0
    wait = 0
    for doll in order:
        spent += prices[doll - 1]
        wait += chances[doll - 1] * spent
    return wait


def finds_in(standing, prices, chances):
    """How long it takes at best by the chances to find the coin, a fraction in lowest terms."""
    bottom = sum(chances)
    # Chances that are all 0 are beyond the promise, but no reason for an error.
    if bottom == 0:
        return 0, 1
    top = least_wait(standing, prices, chances)
    shared = common_divisor(top, bottom)
    return top // shared, bottom // shared


def common_divisor(one, two):
    """The greatest number that divides two others."""
    while two != 0:
        one, two = two, one % two
    return one


def coin_paper(standing, prices, chances):
    """Good lots for each stack, in order."""
    return tuple([good_lots(stack, prices, chances) for stack in standing])


def good_lots(stack, prices, chances):
    """Good lots of a stack, as small as can be."""
    lots = []
    for doll in from_greatest(stack):
        lot = (doll,)
        # A lot worth more than the one ahead is put together with it, so that the worths fall.
        while lots and is_worth_more(lot, lots[-1], prices, chances):
            lot = lots.pop() + lot
        lots.append(lot)
    return tuple(lots)


def is_worth_more(some, others, prices, chances):
    """Whether some dolls have a greater worth than others."""
    # Multiplied out, as there are no fractions: both sides times both prices.
    return total(some, chances) * total(others, prices) > total(others, chances) * total(some, prices)


def coin_shown(standing, prices, chances, thing):
    """The wait that a coin paper shows, None of anything that is none."""
    if not isinstance(thing, tuple) or len(thing) != len(standing):
        return None
    for stack, lots in zip(standing, thing):
        if not are_lots(stack, lots) or not are_good(lots, prices, chances):
            return None
    ranked = by_falling_worth([lot for lots in thing for lot in lots], prices, chances)
    return wait_in([doll for lot in ranked for doll in lot], prices, chances)


def are_lots(stack, thing):
    """Whether a thing, which may be anything, is a stack's lots."""
    if not isinstance(thing, tuple) or not all(is_lot(lot) for lot in thing):
        return False
    return [doll for lot in thing for doll in lot] == from_greatest(stack)


def is_lot(thing):
    """Whether a thing is a tuple of whole numbers, at least one."""
    return isinstance(thing, tuple) and len(thing) > 0 and all(is_whole(doll) for doll in thing)


def are_good(lots, prices, chances):
    """Whether no beginning is worth more than its lot, and no lot more than the one ahead."""
    for lot in lots:
        if any(is_worth_more(lot[:end], lot, prices, chances) for end in range(1, len(lot))):
            return False
    return not any(is_worth_more(lot, ahead, prices, chances) for ahead, lot in zip(lots, lots[1:]))


def by_falling_worth(lots, prices, chances):
    """Lots by falling worth, those of like worth in the order in which they were handed in."""
    ranked = []
    for lot in lots:
        at = len(ranked)
        while at > 0 and is_worth_more(lot, ranked[at - 1], prices, chances):
            at -= 1
        ranked.insert(at, lot)
    return ranked
