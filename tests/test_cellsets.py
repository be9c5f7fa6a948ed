"""Sets of addresses as integers, which serve points 41 to 55."""

import unittest

from labelgrid.addresses import SHEET, cells_of
from labelgrid.cellsets import bit_of, cells_in, first_in, has_cell, last_in, mask_of, mask_of_all, mask_of_cells
from tests.helpers import random_address, random_range, source_of
from tests.spelled import row_by_row


class CellSetTest(unittest.TestCase):
    def test_each_range_and_back(self):
        source = source_of(4)
        for area in [SHEET, ((0, 0), (0, 0)), ((25, 98), (25, 98)), ((0, 0), (0, 98)), ((0, 98), (25, 98))]:
            self.assertEqual(cells_in(mask_of(area)), cells_of(area))
        for _ in range(200):
            area = random_range(source)
            self.assertEqual(cells_in(mask_of(area)), cells_of(area))

    def test_several(self):
        source = source_of(5)
        for _ in range(100):
            areas = [random_range(source, 9, 9) for _ in range(source.randrange(4))]
            cells = {cell for area in areas for cell in cells_of(area)}
            self.assertEqual(cells_in(mask_of_all(areas)), row_by_row(cells))
            self.assertEqual(mask_of_cells(list(cells)), mask_of_all(areas))
            if cells:
                self.assertEqual((first_in(mask_of_cells(list(cells))), last_in(mask_of_cells(list(cells)))),
                                 (row_by_row(cells)[0], row_by_row(cells)[-1]))

    def test_one_address(self):
        source = source_of(6)
        for _ in range(100):
            one, other = random_address(source), random_address(source)
            self.assertTrue(has_cell(bit_of(one), one))
            self.assertEqual(has_cell(bit_of(one), other), one == other)
            self.assertFalse(has_cell(0, one))


if __name__ == "__main__":
    unittest.main()
