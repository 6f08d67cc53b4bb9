"""What the dishes use of a larder, and what becomes of its batches."""

from larderlist.errors import Short
from larderlist.needs import DAYS


def cooked(dishes, larder):
    """For each dish the pairs (batch, amount) that it uses."""
    lines = lines_of(larder)
    uses = [()] * len(dishes)
    order = sorted([(day, at) for at, (day, needs) in enumerate(dishes)])
    for _, at in order:
        uses[at] = used_by(dishes[at], lines)
    return tuple(uses)


def lines_of(larder):
    """For each name triples (last, batch, left) of its batches, the next one to use at the end."""
    lines = {}
    batches = [(last, batch, name, left) for batch, (name, left, last) in enumerate(larder)]
    for last, batch, name, left in sorted(batches, reverse=True):
        if left > 0:
            lines.setdefault(name, []).append((last, batch, left))
    return lines


def used_by(dish, lines):
    """The pairs that a dish uses, need by need; they are taken off the lines."""
    day, needs = dish
    pairs = []
    for name, amount in needs:
        pairs.extend(taken(lines.get(name, []), day, name, amount))
    return tuple(pairs)


def taken(line, day, name, amount):
    """The pairs that meet one need; they are taken off the line."""
    pairs = []
    while amount > 0:
        if not line:
            raise Short(name)
        last, batch, left = line.pop()
        # Dishes are cooked by their days: what is past its last day now stays so.
        if last >= day:
            part = min(amount, left)
            pairs.append((batch, part))
            amount -= part
            if part < left:
                line.append((last, batch, left - part))
    return pairs


def ends(larder, uses):
    """For each batch how much of it is used, how much is spoilt, how much is left."""
    sums = sums_of(uses)
    return tuple([
        end_of(amount, last, sums.get(batch, 0))
        for batch, (name, amount, last) in enumerate(larder)
    ])


def sums_of(uses):
    """For each batch that is used how much of it is used by all dishes together."""
    sums = {}
    for pairs in uses:
        for batch, amount in pairs:
            sums[batch] = sums.get(batch, 0) + amount
    return sums


def end_of(amount, last, used):
    """How much of one batch is used, spoilt and left."""
    rest = amount - used
    return (used, rest, 0) if last < DAYS else (used, 0, rest)
