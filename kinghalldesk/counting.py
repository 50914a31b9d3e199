"""How many rows of moves there are from a position on."""

from kinghalldesk.moving import Move, steps_of

LONGEST_ROW = 6
HIGHEST_MOST = 2000


class OutOfBounds(ValueError):
    pass


class TooManyRows(ValueError):
    pass


def last_steps(rules, position):
    # A row is known by its last step and the position before it: so much is needed to go on.
    return [(position, step) for step in steps_of(rules, position)]


def one_longer(rules, rows, most):
    # Where it's over there are no steps, so such a row isn't gone on.
    longer = []
    for position, step in rows:
        # With more than most it's refused, however many there are: the rest isn't made.
        if len(longer) > most:
            break
        longer.extend(last_steps(rules, Move(rules, position, step).after))
    return longer


def count_rows(rules, position, longest, most):
    if not 1 <= longest <= LONGEST_ROW or not 1 <= most <= HIGHEST_MOST:
        raise OutOfBounds()
    rows = last_steps(rules, position)
    counts = [len(rows)]
    while len(counts) < longest and sum(counts) <= most:
        rows = one_longer(rules, rows, most - sum(counts))
        counts.append(len(rows))
    if sum(counts) > most:
        raise TooManyRows()
    return counts
