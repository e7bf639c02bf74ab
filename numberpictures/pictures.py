"""The calls of the package. Each gives back one list of whole numbers; a refusal is its number alone."""

from numberpictures.pieces import NoPicture
from numberpictures.sections import read_sections

NO_PICTURE = -3


def check(picture):
    """How many sections the picture has, then of each its colour (0 none) and its kind."""
    try:
        sections = read_sections(picture)
    except NoPicture:
        return [NO_PICTURE]
    answer = [len(sections)]
    for section in sections:
        answer.extend([section.colour, section.kind])
    return answer
