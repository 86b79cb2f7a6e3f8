"""Shares: of k pieces of data m more are made, so that any k of the k + m tell the rest.

A share's place is its number among all, from 0: the pieces themselves are the shares at the first k places.
"""

from sealedrowsdesk.field import inverse, multiples

MOST_SHARES = 32


def can_share(k, m):
    """Whether so many pieces can have so many shares more."""
    return k >= 1 and k + m <= MOST_SHARES


def cut(data, count, size):
    """The data cut into so many rows of a size."""
    return [data[size * at:size * at + size] for at in range(count)]


def chain(rows):
    """The rows one behind another."""
    chained = []
    for row in rows:
        chained.extend(row)
    return chained


def factors_of(k, place):
    """By what each of the k pieces is multiplied in the share at a place."""
    if place < k:
        return [1 if j == place else 0 for j in range(k)]
    # The i-th share behind the pieces is at place k + i.
    return [inverse(place ^ j) for j in range(k)]


def add_multiple(row, factor, other):
    """The row and a factor times the other row, added."""
    products = multiples(factor)
    return [byte ^ products[more] for byte, more in zip(row, other)]


def make_share(data, place):
    """The share at a place, of the pieces of data."""
    share = [0] * len(data[0])
    for factor, piece in zip(factors_of(len(data), place), data):
        share = add_multiple(share, factor, piece)
    return share


def make_shares(data, m):
    """All shares of the pieces of data: they, then m more."""
    k = len(data)
    return data + [make_share(data, place) for place in range(k, k + m)]


def solve(rows, k):
    """The k pieces, from k rows that each have the k pieces' factors and then the share that they make."""
    rows = list(rows)
    for at in range(k):
        products = multiples(inverse(rows[at][at]))
        rows[at] = [products[byte] for byte in rows[at]]
        for other in range(k):
            if other != at and rows[other][at] != 0:
                rows[other] = add_multiple(rows[other], rows[other][at], rows[at])
    return [row[k:] for row in rows]


def tell_data(k, places, shares):
    """The k pieces of data, from the shares at k places, the lowest first."""
    spare = [place for place in places if place >= k]
    rows = []
    for j in range(k):
        # A piece that's there stands in its own row, so that no row's own factor gets 0 while they're solved.
        place = j if j in places else spare.pop(0)
        rows.append(factors_of(k, place) + shares[place])
    return solve(rows, k)
