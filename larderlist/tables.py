"""What is bought of one thing: offers (size, price, last), and how often each is bought."""

from larderlist.needs import DAYS


def price_of(offers, counts):
    """The price of all that is bought."""
    return sum([price * count for (size, price, last), count in zip(offers, counts)])


def serves(offers, counts, lacks):
    """Whether what is bought holds, for each day, no less than the day lacks."""
    return all([held(offers, counts, day) >= lack for day, lack in enumerate(lacks, start=1)])


def held(offers, counts, day):
    """How much of what is bought may still be used on the day."""
    return sum([size * count for (size, price, last), count in zip(offers, counts) if last >= day])


def table(offers, lacks):
    """For each day a row of the least prices, one for each amount up to the greatest lack."""
    rows = [()] * DAYS
    # A row is made of the one behind it.
    for day in range(DAYS, 0, -1):
        rows[day - 1] = row_of(offers, lacks, rows, day)
    return tuple(rows)


def row_of(offers, lacks, rows, day):
    """The day's row, made of the rows behind it."""
    sold = sold_on(offers, day)
    # Where no amount is asked for, an offer of the day can only add its price.
    row = [going_on(lacks, rows, day, 0)]
    for amount in range(1, max(lacks) + 1):
        prices = [with_offer(row, amount, size, price) for at, size, price in sold]
        row.append(least([going_on(lacks, rows, day, amount)] + prices))
    return tuple(row)


def sold_on(offers, day):
    """Triples (number, size, price) of the offers that are bought on the day, in order."""
    # What keeps beyond the week is bought on its last day. An offer without a size
    # lessens no amount: the walk would stay with it forever.
    return [
        (at, size, price)
        for at, (size, price, last) in enumerate(offers)
        if min(last, DAYS) == day and size > 0
    ]


def going_on(lacks, rows, day, amount):
    """The price of going on from the day with the amount, or None."""
    if day == DAYS:
        return 0 if amount == 0 else None
    # Days count from 1, rows and lacks from 0: number day is of the next day.
    return rows[day][max(amount, lacks[day])]


def with_offer(row, amount, size, price):
    """The price of an offer and of what it leaves of the amount, or None."""
    rest = row[max(0, amount - size)]
    return None if rest is None else price + rest


def least(prices):
    """The least of the prices that are not None, or None where all are."""
    return min([price for price in prices if price is not None], default=None)


def bought(offers, lacks):
    """The counts of a buying that serves and that no other one undercuts, or None."""
    rows = table(offers, lacks)
    counts = [0] * len(offers)
    amount = 0
    for day in range(1, DAYS + 1):
        amount = max(amount, lacks[day - 1])
        row = rows[day - 1]
        if row[amount] is None:
            return None
        while row[amount] != going_on(lacks, rows, day, amount):
            at = first_fitting(sold_on(offers, day), row, amount)
            counts[at] += 1
            amount = max(0, amount - offers[at][0])
    return tuple(counts)


def first_fitting(sold, row, amount):
    """The number of the first offer by which the day's cell of the amount is reached."""
    fitting = [at for at, size, price in sold if with_offer(row, amount, size, price) == row[amount]]
    return fitting[0]
