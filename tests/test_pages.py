import unittest

from paritypool.pages import page_count, resized, without_end_zeros


class Pages(unittest.TestCase):
    def test_page_count(self):
        self.assertEqual([page_count(size) for size in (0, 1, 15, 16, 17, 32, 33, 4096)], [0, 1, 1, 1, 2, 2, 3, 256])

    def test_resized(self):
        for size, expected in ((0, []), (2, [1, 2]), (3, [1, 2, 3]), (5, [1, 2, 3, 0, 0])):
            words = [1, 2, 3]
            found = resized(words, size)
            self.assertEqual(found, expected)
            found.append(9)
            self.assertEqual(words, [1, 2, 3])

    def test_without_end_zeros(self):
        for words, expected in (([], []), ([0], []), ([0, 0, 5, 0, 0], [0, 0, 5]), ([5], [5]), ([0, 1], [0, 1])):
            self.assertEqual(without_end_zeros(words), expected)


if __name__ == "__main__":
    unittest.main()
