"""Numbers told by digits, each place with a base of its own, the first place counting most."""


def digits_at(bases, number):
    """The list of the digits of a number that is below the product of the bases."""
    left = number
    digits = []
    for base in reversed(bases):
        left, digit = divmod(left, base)
        digits.append(digit)
    return digits[::-1]


def number_with(bases, digits):
    """The number with some digits."""
    number = 0
    for base, digit in zip(bases, digits):
        number = number * base + digit
    return number
