"""What is read from what was entered: a value and the picture that goes with it."""

from numberpictures.values import NUMBER, TEXT


class Entry:
    """A value and the bytes of its picture, none if it has none."""

    def __init__(self, value, picture):
        self.value = value
        self.picture = picture


def number_entry(number, picture):
    return Entry([NUMBER, number], picture)


def text_entry(codes):
    return Entry([TEXT, len(codes)] + codes, [])
