"""What the dishes of a week need."""

DAYS = 7
# The limit of a single amount, and of what a week may need of one name in all.
MOST = 200


def things_of(dishes):
    """The names in the needs of the dishes, each once, by the alphabet."""
    return tuple(sorted({name for day, needs in dishes for name, amount in needs}))


def needed(dishes, name):
    """How much of the name is needed on each day."""
    pairs = [(day, amount) for day, needs in dishes for word, amount in needs if word == name]
    return tuple([needed_on(pairs, day) for day in range(1, DAYS + 1)])


def needed_on(pairs, day):
    """The sum of the amounts in those pairs (day, amount) that are of the day."""
    return sum([amount for on, amount in pairs if on == day])


def from_day(amounts):
    """For each day the sum of the amounts of that day and of all days behind it."""
    return tuple([sum(amounts[at:]) for at in range(DAYS)])
