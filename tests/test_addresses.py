"""Points 4 and 5."""

import unittest

from labelgrid.addresses import (SHEET, cells_of, common, count_of, covered, disjoint, inside, parse_address,
                                 parse_range, place_key, show_address, show_range, size_of, without, without_all)
from tests.helpers import check_pure, random_range, source_of


def shown(areas):
    return [show_range(area) for area in areas]


def area_of(text):
    return parse_range(text)


def cells_in(areas):
    return [address for area in areas for address in cells_of(area)]


class AddressTest(unittest.TestCase):
    def test_corners(self):
        corners = {"A1": (0, 0), "Z1": (25, 0), "A99": (0, 98), "Z99": (25, 98), "B7": (1, 6), "J10": (9, 9)}
        for text, address in corners.items():
            self.assertEqual(parse_address(text), address)
            self.assertEqual(show_address(address), text)
        self.assertEqual(SHEET, ((0, 0), (25, 98)))

    def test_all_addresses_are_read_back(self):
        for address in cells_of(SHEET):
            self.assertEqual(parse_address(show_address(address)), address)

    def test_no_addresses(self):
        for text in ["", "A", "1", "A0", "A00", "A01", "A100", "A-1", "a1", "AA1", "[1", "@1", "A1 ", " A1", "A1B", "1A",
                     "A\u0661", "A1:A1", "\u00c41"]:
            self.assertIsNone(parse_address(text), repr(text))

    def test_ranges(self):
        self.assertEqual(area_of("B7:D9"), ((1, 6), (3, 8)))
        self.assertEqual(area_of("B7:B7"), ((1, 6), (1, 6)))
        self.assertEqual(area_of("A1:Z99"), SHEET)
        self.assertEqual(show_range(((1, 6), (3, 8))), "B7:D9")

    def test_no_ranges(self):
        for text in ["", ":", "A1", "A1:", ":A1", "B1:A1", "A2:A1", "B1:A2", "A2:B1", "A1:B2:C3", "A1:B100", "A0:B2",
                     "A1 :B2", "A1;B2"]:
            self.assertIsNone(area_of(text), repr(text))

    def test_reading_order(self):
        self.assertEqual(cells_of(area_of("B2:C3")), [(1, 1), (2, 1), (1, 2), (2, 2)])
        self.assertEqual(cells_of(SHEET), sorted(cells_of(SHEET), key=place_key))
        self.assertEqual(place_key((3, 5)), (5, 3))

    def test_sizes(self):
        self.assertEqual((size_of(SHEET), len(cells_of(SHEET))), (26 * 99, 26 * 99))
        self.assertEqual((size_of(area_of("C3:C3")), size_of(area_of("B2:D3"))), (1, 6))

    def test_inside(self):
        area = area_of("B2:D4")
        for text in ["B2", "D4", "B4", "D2", "C3"]:
            self.assertTrue(inside(parse_address(text), area), text)
        for text in ["A2", "E4", "B1", "B5", "A1", "E5"]:
            self.assertFalse(inside(parse_address(text), area), text)

    def test_inside_is_being_among_the_addresses(self):
        source = source_of(4)
        for _ in range(100):
            area = random_range(source, 8, 8)
            cells = cells_of(area)
            for address in cells_of(((0, 0), (8, 8))):
                self.assertEqual(inside(address, area), address in cells)


class PartsTest(unittest.TestCase):
    def test_common(self):
        self.assertEqual(common(area_of("A1:C3"), area_of("B2:D4")), area_of("B2:C3"))
        self.assertEqual(common(area_of("A1:B2"), area_of("B2:C3")), area_of("B2:B2"))
        self.assertIsNone(common(area_of("A1:B2"), area_of("C1:D2")))
        self.assertIsNone(common(area_of("A1:B2"), area_of("A3:B4")))

    def test_order_of_the_four_parts(self):
        parts = without(area_of("A1:E5"), area_of("B2:D4"))
        self.assertEqual(shown(parts), ["A1:E1", "A5:E5", "A2:A4", "E2:E4"])

    def test_example(self):
        self.assertEqual(shown(without(area_of("A1:D4"), area_of("B2:C9"))), ["A1:D1", "A2:A4", "D2:D4"])

    def test_no_common_address(self):
        self.assertEqual(shown(without(area_of("A1:B2"), area_of("C3:D4"))), ["A1:B2"])

    def test_at_a_corner(self):
        self.assertEqual(shown(without(area_of("A1:B2"), area_of("B2:C3"))), ["A1:B1", "A2:A2"])

    def test_within_another(self):
        self.assertEqual(without(area_of("B2:C3"), area_of("A1:D4")), [])
        self.assertEqual(without(area_of("B2:C3"), area_of("B2:C3")), [])

    def test_several(self):
        parts = without_all(area_of("A1:C3"), [area_of("B2:B2"), area_of("A1:C1"), area_of("C2:C2")])
        self.assertEqual(shown(parts), ["A3:C3", "A2:A2"])
        self.assertEqual(without_all(area_of("A1:C3"), []), [area_of("A1:C3")])

    def test_order_of_several(self):
        parts = without_all(area_of("A1:E5"), [area_of("C3:C3"), area_of("B1:B2")])
        self.assertEqual(shown(parts), ["A1:A2", "C1:E2", "A4:E5", "A3:B3", "D3:E3"])

    def test_disjoint(self):
        areas = [area_of("A1:B2"), area_of("B2:C3"), area_of("A1:C1")]
        self.assertEqual(shown(disjoint(areas)), ["A1:B2", "B3:C3", "C2:C2", "C1:C1"])
        self.assertEqual(disjoint([]), [])
        self.assertEqual(shown(disjoint([areas[0], areas[0]])), ["A1:B2"])

    def test_covered(self):
        self.assertTrue(covered(area_of("A1:B2"), [area_of("A1:A2"), area_of("B1:B5")]))
        self.assertFalse(covered(area_of("A1:B2"), [area_of("A1:A2"), area_of("B1:B1")]))
        self.assertFalse(covered(area_of("A1:A1"), []))

    def test_count(self):
        self.assertEqual(count_of([area_of("A1:B2"), area_of("B2:B3")]), 5)
        self.assertEqual(count_of([]), 0)
        self.assertEqual(count_of([SHEET, SHEET]), 26 * 99)

    def test_against_sets(self):
        source = source_of(5)
        for _ in range(400):
            areas = [random_range(source, 7, 7) for _ in range(source.randrange(5))]
            area = random_range(source, 7, 7)
            left = cells_in(without_all(area, areas))
            self.assertEqual(len(left), len(set(left)))
            self.assertEqual(set(left), set(cells_of(area)) - set(cells_in(areas)))
            self.assertEqual(covered(area, areas), set(cells_of(area)) <= set(cells_in(areas)))
            self.assertEqual(count_of(areas), len(set(cells_in(areas))))
            parts = cells_in(disjoint(areas))
            self.assertEqual(len(parts), len(set(parts)))
            self.assertEqual(set(parts), set(cells_in(areas)))

    def test_arguments_stay(self):
        areas = [area_of("A1:B2"), area_of("B2:C3")]
        check_pure(self, disjoint, areas)
        check_pure(self, without_all, SHEET, areas)
        check_pure(self, covered, SHEET, areas)
        check_pure(self, count_of, areas)


if __name__ == "__main__":
    unittest.main()
