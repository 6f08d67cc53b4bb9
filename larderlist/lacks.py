"""What a larder keeps for the days of a week, and what is lacking."""

from larderlist.needs import DAYS, from_day, needed


def kept(larder, name):
    """For each day how much of the name may still be used on it."""
    pairs = [(amount, last) for word, amount, last in larder if word == name]
    return tuple([kept_to(pairs, day) for day in range(1, DAYS + 1)])


def kept_to(pairs, day):
    """The sum of the amounts in those pairs (amount, last) that keep to the day."""
    return sum([amount for amount, last in pairs if last >= day])


def lacking(dishes, larder, name):
    """For each day what the need from that day on has beyond what is kept to it."""
    # What is needed from a day on can come only out of what keeps at least to
    # that day, so each day sets the need of all days behind it, too.
    needs = from_day(needed(dishes, name))
    return tuple([max(0, need - have) for need, have in zip(needs, kept(larder, name))])
