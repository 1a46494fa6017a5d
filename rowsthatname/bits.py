"""Numbers of rows as the bits of integers that are set, and outcomes as such bits."""


def count_bits(bits):
    """How many bits are set."""
    return f"{bits:b}".count("1")


def numbers_in(bits):
    """The ascending tuple of the numbers of the bits that are set."""
    return tuple([number for number in range(bits.bit_length()) if (bits >> number) & 1 == 1])


def bits_of(heard):
    """Outcomes as bits: the numbers of the rows that fail."""
    bits = 0
    for number, outcome in enumerate(heard):
        if outcome:
            bits = bits | (1 << number)
    return bits


def outcomes_of(bits, many):
    """The outcomes of so many rows that have these bits."""
    return tuple([(bits >> number) & 1 == 1 for number in range(many)])


def mixed_bits(signs):
    """The numbers, as bits, that are set in some of the signs and not in all of them."""
    some = 0
    every = -1
    for sign in signs:
        some = some | sign
        every = every & sign
    return some & ~every
