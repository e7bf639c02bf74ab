"""What the tests of pictures share."""

import unittest

from numberpictures.pictures import check

NO_PICTURE = [-3]


def bytes_of(picture):
    """A picture's bytes as a list; a picture may be written as a text or as bytes."""
    return list(picture.encode("utf-8") if isinstance(picture, str) else picture)


class PictureTest(unittest.TestCase):
    def answers(self, picture, expected):
        with self.subTest(picture=picture):
            self.assertEqual(check(bytes_of(picture)), expected)

    def is_kind(self, kind, *pictures):
        """Each of these is right, of one section of this kind and without a colour."""
        for picture in pictures:
            self.answers(picture, [1, 0, kind])

    def is_refused(self, *pictures):
        for picture in pictures:
            self.answers(picture, NO_PICTURE)
