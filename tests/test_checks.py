"""What a value is, asked of any value."""

from fromsize.checks import is_integer, is_numbers, is_setting, is_size, is_table, is_within
from tests.own import GREAT, NO_SIZES, ODD_VALUES, Case


class ChecksTest(Case):
    def told(self, want, function, *values, **named):
        self.assertIs(function(*values, **named), want, (function.__name__, values))

    def test_integers(self):
        for value in (0, 1, -1, GREAT, -GREAT, 10 ** 5000):
            self.told(True, is_integer, value)
        for value in [*ODD_VALUES, [1], (1,), [], "1", 1.5, 1j]:
            self.told(False, is_integer, value)

    def test_within(self):
        for least, most in ((3, 7), (-7, -3), (0, 0), (-GREAT, GREAT), (GREAT, GREAT + 4)):
            for value, want in ((least - 1, False), (least, True), (most, True), (most + 1, False)):
                self.told(want, is_within, value, least, most)
                self.told(least <= value, is_within, value, least, None)
                self.told(value <= most, is_within, value, None, most)
                self.told(True, is_within, value, None, None)
        self.told(False, is_within, 3, 4, 2)
        for value in [*ODD_VALUES, [1], "1"]:
            self.told(False, is_within, value, None, None)
            self.told(False, is_within, value, 0, 1)
            self.told(False, is_within, value, None, 1)
            self.told(False, is_within, value, 0, None)

    def test_numbers(self):
        for value in ([], (), [0], (1, -1), [GREAT, -GREAT], (0,) * 1000):
            self.told(True, is_numbers, value)
        for value in [*ODD_VALUES, 1, [True], (1, False), [None], ["1"], [1.0], [[1]], ((),), {1: 2}, "12"]:
            self.told(False, is_numbers, value)

    def test_sizes(self):
        for value in (1, 2, 7, GREAT):
            self.told(True, is_size, value)
        for value in [*ODD_VALUES, *NO_SIZES]:
            self.told(False, is_size, value)

    def test_settings(self):
        for value in ([0, 5], (0, 0), [GREAT, 1]):
            self.told(True, is_setting, value, 2)
            self.told(False, is_setting, value, 1)
            self.told(False, is_setting, value, 3)
        self.told(True, is_setting, [], 0)
        self.told(True, is_setting, [4], 1)
        self.told(False, is_setting, [4], True)
        for value in [*ODD_VALUES, [0, -1], (True, 0), [0, False], [0, None], ["0", "1"], [0, [1]], [-GREAT, 0], 2]:
            self.told(False, is_setting, value, 2)

    def test_tables(self):
        self.told(True, is_table, [[1, 2], (3, 4)], 2)
        self.told(True, is_table, ((1, -GREAT), (0, 0)), 2)
        self.told(True, is_table, [[7]], 1)
        self.told(True, is_table, [[0] * 7] * 7, 7)
        bad = [[[1, 2], [3]], [[1, 2], [3, 4], [5, 6]], [[1, 2]], [[1, 2], [3, True]], [[1, 2], 3], [[1, 2], "34"],
               [[1, 2], None], [[1, 2], {3: 4}], [[1, 2], [3, 4, 5]], [1, 2], [], [[], []], [[1, 2], [3, [4]]], 1]
        for value in bad + ODD_VALUES:
            self.told(False, is_table, value, 2)
        self.told(False, is_table, [[7]], 2)
        self.told(False, is_table, [[1, 2], [3, 4]], 1)
        self.told(False, is_table, [], 0)
        self.told(False, is_table, [[7]], True)

    def test_by_name(self):
        self.told(True, is_integer, value=3)
        self.told(True, is_within, most=3, least=1, value=2)
        self.told(True, is_numbers, value=[3])
        self.told(True, is_size, value=3)
        self.told(True, is_setting, many=1, value=[3])
        self.told(True, is_table, size=1, value=[[3]])
