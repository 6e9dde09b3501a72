"""The cheapest rows of moves from a standing to all others, by any kind of cost."""

from nestdolls.dolls import after, moves


def cheapest(standing, spots, start, grown):
    """A dict from each standing to which one comes, itself too, to the least cost of a row there.

    start is the cost of the empty row; grown tells, of the cost of a row, a move and the
    standing behind it, the cost of the row with that move, which is never less.
    """
    settled = {}
    waiting = {standing: start}
    while waiting:
        # No other row can undercut the least cost that waits, as no move makes a row cheaper.
        here = min(waiting, key=lambda other: waiting[other])
        cost = waiting.pop(here)
        settled[here] = cost
        for move in moves(here, spots):
            there = after(here, move)
            if there not in settled:
                offered = grown(cost, move, there)
                waiting[there] = min(waiting.get(there, offered), offered)
    return settled
