import unittest

from paritypool.paths import is_name, is_path, moved_path, ways

ALLOWED = "abcdefghijklmnopqrstuvwxyz0123456789-"


class Names(unittest.TestCase):
    def test_lengths(self):
        for length in range(0, 15):
            self.assertIs(is_name("a" * length), 1 <= length <= 12, length)

    def test_each_character(self):
        for code in range(128):
            with self.subTest(code):
                self.assertIs(is_name(chr(code)), chr(code) in ALLOWED)
                self.assertIs(is_name("a" + chr(code) + "b"), chr(code) in ALLOWED)
                self.assertIs(is_name("ab" + chr(code)), chr(code) in ALLOWED)

    def test_other_characters_and_other_values(self):
        for text in ("\u00e4", "a\u0663", "a\n", "A", "a b", "home@snap", "a/b", None, 5, [], ("a",), b"a"):
            self.assertIs(is_name(text), False, text)


class Paths(unittest.TestCase):
    def test_paths(self):
        for text in ("", "a", "a/b", "0/-/z", "abcdefghijkl/abcdefghijkl", "/".join("a" * 30)):
            self.assertIs(is_path(text), True, text)

    def test_texts_that_are_no_paths(self):
        for text in ("/", "/a", "a/", "a//b", "//", "a/b/", "a/B", "a/ /b", "abcdefghijklm", "a/abcdefghijklm/b", "a@b",
                     ".", "..", "a/\u00e9", None, 7, [], ("a",), b"", b"a"):
            self.assertIs(is_path(text), False, text)

    def test_sixty_characters_and_one_more(self):
        names = ["abcdefghijkl", "abcdefghijkl", "abcdefghijkl", "abcdefghijkl"]
        for last in ("abcdefg", "abcdefgh", "abcdefghi"):
            text = "/".join([*names, last])
            self.assertIs(is_path(text), len(text) <= 60)
        self.assertEqual(len("/".join([*names, "abcdefgh"])), 60)
        self.assertIs(is_path("/".join("a" * 31)), False)
        self.assertIs(is_path("a" * 60), False)


class Ways(unittest.TestCase):
    def test_ways(self):
        self.assertEqual(ways(""), [])
        self.assertEqual(ways("a"), [])
        self.assertEqual(ways("a/b"), ["a"])
        self.assertEqual(ways("a/a/a"), ["a", "a/a"])
        self.assertEqual(ways("ab/c/d-1/e"), ["ab", "ab/c", "ab/c/d-1"])

    def test_the_longest_path(self):
        path = "/".join("abcdefghijklmnopqrstuvwxyz0123")
        self.assertEqual(ways(path), [path[:2 * many - 1] for many in range(1, 30)])

    def test_each_answer_is_another_list(self):
        ways("a/b/c").clear()
        self.assertEqual(ways("a/b/c"), ["a", "a/b"])


class Moved(unittest.TestCase):
    def test_the_path_itself_and_longer_ones(self):
        self.assertEqual(moved_path("a", "a", "x"), "x")
        self.assertEqual(moved_path("a/b", "a/b", "x/y/z"), "x/y/z")
        self.assertEqual(moved_path("a/b/c", "a", "x"), "x/b/c")
        self.assertEqual(moved_path("a/b/c", "a/b", "x/y"), "x/y/c")

    def test_the_old_path_occurs_again(self):
        self.assertEqual(moved_path("a/a/a", "a", "b"), "b/a/a")
        self.assertEqual(moved_path("a/b/a/b", "a/b", "c"), "c/a/b")
        self.assertEqual(moved_path("ab/ab", "ab", "a"), "a/ab")

    def test_a_result_that_is_too_long_for_a_path(self):
        new = "/".join(["c" * 12] * 4)
        self.assertEqual(moved_path("a/" + "b" * 12, "a", new), new + "/" + "b" * 12)


if __name__ == "__main__":
    unittest.main()
