import unittest

from paritypool.images import is_present, sector_at


class Images(unittest.TestCase):
    def test_present_disks(self):
        images = [[[1], None], None, []]
        self.assertEqual([disk for disk in range(-4, 6) if is_present(images, disk)], [0, 2])
        self.assertFalse(is_present([], 0))

    def test_sectors(self):
        images = [[[1], None, [3]], None, []]
        found = {(disk, row): sector_at(images, disk, row) for disk in range(-4, 6) for row in range(-4, 6)}
        self.assertEqual({place: sector for place, sector in found.items() if sector is not None},
                         {(0, 0): [1], (0, 2): [3]})


if __name__ == "__main__":
    unittest.main()
