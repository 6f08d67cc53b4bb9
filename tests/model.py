"""The document's words by plain trial of all buyings, slow: what the tests hold the program to."""

import functools
import itertools
import random

DAYS = range(1, 8)


def holds(offers, counts, day):
    return sum(size * count for (size, _, last), count in zip(offers, counts) if last >= day)


def costs(offers, counts):
    return sum(price * count for (_, price, _), count in zip(offers, counts))


def buyings(offers, most):
    """All buyings in which no offer is bought more often than all of `most` asks for."""
    return itertools.product(*(range(-(-most // size) + 1) for size, _, _ in offers))


def cell(offers, lacks, day, amount):
    """[7]: the cell of a day and an amount."""
    offers = tuple(offer for offer in offers if offer[2] >= day)
    prices = [
        costs(offers, counts)
        for counts in buyings(offers, max(lacks))
        if holds(offers, counts, day) >= amount
        and all(holds(offers, counts, behind) >= lacks[behind - 1] for behind in range(day + 1, 8))
    ]
    return min(prices, default=None)


def table(offers, lacks):
    return tuple(
        tuple(cell(offers, lacks, day, amount) for amount in range(max(lacks) + 1)) for day in DAYS
    )


def least_price(offers, lacks):
    """[8]: the price of a buying that serves and that no other one undercuts."""
    prices = [
        costs(offers, counts)
        for counts in buyings(offers, max(lacks))
        if all(holds(offers, counts, day) >= lacks[day - 1] for day in DAYS)
    ]
    return min(prices, default=None)


def walk(offers, lacks):
    """[8]: the walk, step by step as the document tells it, out of the cells by trial."""
    look = functools.lru_cache(None)(functools.partial(cell, offers, lacks))

    def price_of_going_on(day, amount):
        if day == 7:
            return 0 if amount == 0 else None
        return look(day + 1, max(amount, lacks[day]))

    if least_price(offers, lacks) is None:
        return None
    counts, day, amount = [0] * len(offers), 1, lacks[0]
    while True:
        here = look(day, amount)
        if here == price_of_going_on(day, amount):
            if day == 7:
                return tuple(counts)
            amount, day = max(amount, lacks[day]), day + 1
            continue
        for at, (size, price, last) in enumerate(offers):
            of_day = last == day or (day == 7 and last >= 7)
            rest = look(day, max(0, amount - size))
            if of_day and rest is not None and price + rest == here:
                counts[at] += 1
                amount = max(0, amount - size)
                break
        else:
            raise AssertionError("the walk is stuck")


def cooked(dishes, larder):
    """[9]: the pairs of each dish, or the name for which there is not enough."""
    left = [amount for _, amount, _ in larder]
    uses = [()] * len(dishes)
    for day in DAYS:
        for at, (on, needs) in enumerate(dishes):
            if on != day:
                continue
            for name, amount in needs:
                while amount > 0:
                    fit = [
                        (last, batch)
                        for batch, (word, _, last) in enumerate(larder)
                        if word == name and last >= day and left[batch] > 0
                    ]
                    if not fit:
                        return name
                    batch = min(fit)[1]
                    part = min(amount, left[batch])
                    left[batch] -= part
                    amount -= part
                    uses[at] += ((batch, part),)
    return tuple(uses)


def tables_made():
    """Pairs (offers, lacks), the same ones each time: few offers, many alike in price."""
    chance = random.Random(20261120)
    for _ in range(500):
        offers = tuple(
            (chance.randint(1, 4), chance.choice((0, 1, 1, 2, 2, 3, 4, 6)), chance.randint(1, 9))
            for _ in range(chance.randint(0, 3))
        )
        most = chance.randint(0, 5)
        lacks = tuple(chance.choice((0, chance.randint(0, most))) for _ in DAYS)
        yield offers, lacks


def weeks_made(many, dishes=5, batches=5, packs=4, names=("egg", "ham", "rye"), amount=4):
    """Triples (dishes, larder, packs), the same ones each time."""
    chance = random.Random(20261121)

    def number():
        return chance.randint(1, amount)

    for _ in range(many):
        yield (
            tuple(
                (
                    chance.randint(1, 7),
                    tuple((chance.choice(names), number()) for _ in range(chance.randint(0, 3))),
                )
                for _ in range(chance.randint(0, dishes))
            ),
            tuple(
                (chance.choice(names), number(), chance.choice((1, 2, 3, 4, 5, 6, 7, 8, 99)))
                for _ in range(chance.randint(0, batches))
            ),
            tuple(
                (chance.choice(names), number() + 2, chance.randint(0, 6), chance.randint(1, 10))
                for _ in range(chance.randint(0, packs))
            ),
        )
