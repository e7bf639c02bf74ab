"""Powers and roundings over whole numbers alone."""


def power(base, exponent):
    """The base to an exponent from 0 on."""
    result = 1
    for step in range(exponent):
        result *= base
    return result


def round_halves_up(number, divisor):
    """A number from 0 on by a divisor above 0, to the nearest whole number."""
    return (2 * number + divisor) // (2 * divisor)
