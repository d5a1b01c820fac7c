"""Sets held as whole numbers, a bit for each member."""


def lowest(bits):
    return bits & -bits


def highest(bits):
    return 1 << (bits.bit_length() - 1)


def single_bits(bits):
    singles = []
    while bits:
        singles.append(lowest(bits))
        bits ^= lowest(bits)
    return singles


# All sets that can be made of the members, the empty one too.
def choices_of(bits):
    choices = [0]
    for bit in single_bits(bits):
        choices = choices + [choice | bit for choice in choices]
    return choices
