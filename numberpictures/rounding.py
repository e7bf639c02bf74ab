"""Powers and roundings over whole numbers alone."""


def power(base, exponent):
    """The base to an exponent from 0 on."""
    result = 1
    for step in range(exponent):
        result *= base
    return result


def round_halves_up(number, divisor):
    """A number from 0 on by a divisor above 0, to the nearest whole number."""
    return (2 * number + divisor) // (2 * divisor)


def round_halves_even(number, divisor):
    """A number from 0 on by a divisor above 0, to the nearest whole number, of two as near to the even one."""
    whole = number // divisor
    rest = 2 * (number % divisor)
    return whole + 1 if rest > divisor or (rest == divisor and whole % 2 == 1) else whole
