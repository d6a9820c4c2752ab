"""Points 02.1 to 02.3."""

from manysides.kinds import greatest_of, is_before, is_value, least_of
from tests.helpers import Case

KINDS = ("int", "flag", "text")


class KindsTest(Case):
    def test_example(self):
        found = [is_value("int", 5), is_value("int", True), is_value("text", None), is_before("Z", "a")]
        self.assert_same(found, [True, False, False, True])

    def assert_kinds(self, value, kinds):
        self.assert_same([kind for kind in KINDS if is_value(kind, value)], kinds)
        for kind in KINDS:
            self.assertIsInstance(is_value(kind, value), bool)

    def test_integers(self):
        for value in (0, 1, -1, 2, 10 ** 30 - 1, 1 - 10 ** 30):
            self.assert_kinds(value, ["int"])
        for value in (10 ** 30, -10 ** 30, 10 ** 30 + 1, -10 ** 30 - 1, 10 ** 100):
            self.assert_kinds(value, [])

    def test_flags(self):
        self.assert_kinds(True, ["flag"])
        self.assert_kinds(False, ["flag"])

    def test_texts(self):
        for value in ("", "a", " ~\n", "x" * 199, "x" * 200, "True", "5"):
            self.assert_kinds(value, ["text"])
        for value in ("x" * 201, "%", "a\tb", "\r\n", "\xe9", "\x7f", "a" * 200 + "%"):
            self.assert_kinds(value, [])

    def test_things_of_no_kind(self):
        for value in (None, [], (), [1], (1,), ["a"], ("a",), [True], (None,)):
            self.assert_kinds(value, [])

    def test_order_of_integers(self):
        self.assert_ascending([1 - 10 ** 30, -10, -9, -1, 0, 1, 9, 10, 10 ** 30 - 1])

    def test_order_of_flags(self):
        self.assert_ascending([False, True])

    def test_order_of_texts(self):
        self.assert_ascending(["", "\n", "\n\n", " ", "!", "10", "9", "A", "AA", "Aa", "B", "Z", "_", "a", "~", "~~"])

    def assert_ascending(self, values):
        for first, one in enumerate(values):
            for second, other in enumerate(values):
                self.assert_same(is_before(one, other), first < second)

    def test_least_and_greatest(self):
        self.assert_same([least_of(kind) for kind in KINDS], [-999999999999999999999999999999, False, ""])
        self.assert_same([greatest_of(kind) for kind in KINDS], [999999999999999999999999999999, True, "~" * 200])

    def test_the_ends_are_values(self):
        for kind in KINDS:
            self.assertTrue(is_value(kind, least_of(kind)))
            self.assertTrue(is_value(kind, greatest_of(kind)))
            self.assertTrue(is_before(least_of(kind), greatest_of(kind)))

    def test_nothing_is_changed(self):
        self.assert_unchanged(is_value, "int", [1, [2]])
