import unittest

from asunmoved.base.names import is_name, is_parts

from tests.wrong import strange


class Names(unittest.TestCase):
    def test_names(self):
        for name in ("a", "z", "az", "live", "archive", "letterss", "aaaaaaaa", "zzzzzzzz"):
            self.assertIs(is_name(name), True)

    def test_no_names(self):
        for value in ("", "aaaaaaaaa", "lettersss", "A", "aB", "a1", "a b", " a", "a ", "a_", "`", "{", "a\n", "\n"):
            self.assertIs(is_name(value), False)

    def test_every_sign(self):
        for code in range(32, 127):
            self.assertIs(is_name(chr(code)), "a" <= chr(code) <= "z")
            self.assertIs(is_name("b" + chr(code)), "a" <= chr(code) <= "z")

    def test_other_kinds(self):
        for value in strange():
            if not isinstance(value, str):
                self.assertIs(is_name(value), False)


class Parts(unittest.TestCase):
    def test_two_to_four(self):
        for value in (("a", "b"), ("archive", "live"), ("a", "aa"), ("a", "b", "c"), ("a", "b", "c", "d")):
            self.assertIs(is_parts(value), True)

    def test_too_few_and_too_many(self):
        for value in ((), ("a",), ("a", "b", "c", "d", "e")):
            self.assertIs(is_parts(value), False)

    def test_not_ascending(self):
        for value in (("b", "a"), ("a", "a"), ("a", "c", "b"), ("a", "b", "b"), ("b", "c", "d", "a")):
            self.assertIs(is_parts(value), False)

    def test_no_names_within(self):
        for value in strange():
            right = isinstance(value, str) and is_name(value)
            self.assertIs(is_parts(("a", value)), right and value > "a")
            self.assertIs(is_parts((value, "zz")), right)

    def test_other_kinds(self):
        for value in strange():
            self.assertIs(is_parts(value), value == ("archive", "live") or value == ("new", "old"))
        for value in (["a", "b"], "ab", {"a": 1, "b": 2}):
            self.assertIs(is_parts(value), False)
