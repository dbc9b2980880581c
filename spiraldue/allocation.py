"""How an amount is allocated among participants with shares (point 4)."""


def allocate(amount, shares):
    """The tuple of the parts of an amount, one for each of the shares."""
    cycles, rest = divmod(amount, sum(shares))
    parts = []
    for share in shares:
        extra = min(share, rest)
        parts.append(share * cycles + extra)
        rest -= extra
    return tuple(parts)


def next_unit(amount, shares):
    """The index of the participant that gets the next unit behind an amount."""
    rest = amount % sum(shares)
    index = 0
    while rest >= shares[index]:
        rest -= shares[index]
        index += 1
    return index
