"""Point [77] and the interface: the class Image."""

import unittest

from windowada.image import Image

NAMES = ("constraint_error", "program_error", "storage_error", "end_error")


def with_regions(*regions):
    return Image((0,), (0,), {}, tuple(regions), NAMES, (), 32)


class ImageTest(unittest.TestCase):

    def test_attributes(self):
        given = ((5, 6, 7), (2, 9), {3: 0, 5: 1}, ((1, 2, 3),), NAMES, ((1, 1), (2, 5)), 77)
        image = Image(*given)
        found = (image.words, image.starts, image.places, image.regions, image.names, image.positions, image.memory)
        self.assertEqual(found, given)
        self.assertEqual([type(part) for part in found], [tuple, tuple, dict, tuple, tuple, tuple, int])

    def test_no_region(self):
        for address in (-1, 0, 1, 100):
            self.assertEqual(with_regions().region_entry(address), -1)

    def test_ends_of_a_region(self):
        image = with_regions((3, 6, 9))
        self.assertEqual([image.region_entry(address) for address in range(8)], [-1, -1, -1, 9, 9, 9, -1, -1])

    def test_regions_with_one_address_and_none(self):
        self.assertEqual([with_regions((3, 4, 0)).region_entry(address) for address in range(2, 6)], [-1, 0, -1, -1])
        self.assertEqual([with_regions((3, 3, 7)).region_entry(address) for address in range(2, 6)], [-1] * 4)
        self.assertEqual([with_regions((5, 3, 7)).region_entry(address) for address in range(2, 6)], [-1] * 4)

    def test_the_first_of_several(self):
        image = with_regions((4, 6, 20), (2, 8, 21), (0, 5, 22), (4, 6, 23), (7, 9, 24))
        self.assertEqual([image.region_entry(address) for address in range(10)], [22, 22, 21, 21, 20, 20, 21, 21, 24, -1])
        image = with_regions((2, 8, 21), (4, 6, 20))
        self.assertEqual([image.region_entry(address) for address in range(1, 9)], [-1, 21, 21, 21, 21, 21, 21, -1])

    def test_region_at_address_0(self):
        image = with_regions((0, 1, 0), (0, 10 ** 9, 5))
        self.assertEqual([image.region_entry(address) for address in (-1, 0, 1, 10 ** 9 - 1, 10 ** 9)], [-1, 0, 5, 5, -1])

    def test_what_was_given_stays(self):
        places = {3: 1, 2: 0}
        regions = ((1, 4, 2), (0, 9, 3))
        image = Image((1, 2), (0,), places, regions, NAMES, ((1, 1),), 16)
        for address in range(12):
            image.region_entry(address)
        self.assertEqual(list(places.items()), [(3, 1), (2, 0)])
        self.assertEqual((image.places, image.regions), ({3: 1, 2: 0}, ((1, 4, 2), (0, 9, 3))))


if __name__ == "__main__":
    unittest.main()
