"""A week: what is bought for its dishes, what it costs, and what becomes of it."""

from larderlist.cooking import cooked, ends
from larderlist.errors import Short, TooMuch
from larderlist.lacks import lacking
from larderlist.needs import MOST, needed, things_of
from larderlist.tables import bought, price_of


def shopped(dishes, larder, packs):
    """How often each pack is bought, so that nothing lacks and no other buying costs less."""
    counts = [0] * len(packs)
    for name in things_of(dishes):
        places = [at for at, pack in enumerate(packs) if pack[0] == name]
        offers = offers_of([packs[at] for at in places])
        for at, count in zip(places, counts_of(dishes, larder, offers, name)):
            counts[at] = count
    return tuple(counts)


def offers_of(packs):
    """The packs without their names."""
    return tuple([(size, price, last) for name, size, price, last in packs])


def counts_of(dishes, larder, offers, name):
    """How often each offer of the name is bought; a refusal where that can't be told."""
    if sum(needed(dishes, name)) > MOST:
        raise TooMuch(name)
    counts = bought(offers, lacking(dishes, larder, name))
    if counts is None:
        raise Short(name)
    return counts


def stocked(larder, packs, counts):
    """The larder with a batch behind for each pack that is bought."""
    batches = [(name, amount, last) for name, amount, last in larder]
    for (name, size, price, last), count in zip(packs, counts):
        batches.extend([(name, size, last)] * count)
    return tuple(batches)


def total(packs, counts):
    """The price of all packs that are bought."""
    return price_of(offers_of(packs), counts)


def week(dishes, larder, packs):
    """The counts, the larder stocked with them, what each dish uses of it, and its ends."""
    counts = shopped(dishes, larder, packs)
    store = stocked(larder, packs, counts)
    uses = cooked(dishes, store)
    return counts, store, uses, ends(store, uses)


def listed(packs, counts):
    """A row for each pack that is bought, and one for the price of all."""
    rows = [
        f"{count} {name} {size} {count * price}"
        for (name, size, price, last), count in zip(packs, counts)
        if count > 0
    ]
    return "\n".join(rows + [f"total {total(packs, counts)}"])
