"""The cipher's field: bytes as polynomials modulo x^8 + x^4 + x^3 + x + 1; sums are exclusive or."""


def double(byte):
    """The byte times x."""
    if byte < 0x80:
        return byte << 1
    return (byte << 1) ^ 0x11b


def multiples(factor):
    """The factor times each byte, in the bytes' order."""
    products = [0]
    for power in range(8):
        # Those with this bit are those without it, all by the factor times x to this power more.
        products = products + [product ^ factor for product in products]
        factor = double(factor)
    return products


def inverse(byte):
    """The byte that, times this one, is 1; there is none for 0."""
    return multiples(byte).index(1)
