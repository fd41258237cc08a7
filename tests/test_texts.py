"""Integers in texts."""

from fromsize.texts import is_number_text, number_text
from tests.own import GREAT, Case


class TextsTest(Case):
    def test_digits(self):
        for number in (0, 1, -1, 10, 907, -GREAT, 10 ** 600 + 7, -(10 ** 603), 2 ** 2000 - 1, 2 ** 2000, 1 - 2 ** 2001):
            self.assertEqual(number_text(number), str(number))
        for power in (4300, 4999, 5000, 60 * 90, 60 * 90 - 1):
            self.assertEqual(number_text(10 ** power + 20), "1" + "0" * (power - 2) + "20")
            self.assertEqual(number_text(-(10 ** power) + 1), "-" + "9" * power)

    def test_what_can_stand(self):
        for item in ("0", "1", "-1", "10", "907", "-20", "9" * 60, "-" + "9" * 60):
            self.assertIs(is_number_text(item), True)
        for item in ("", "-", "-0", "00", "01", "-01", "+1", "+0", " 1", "1 ", "1\n", "--1", "1-", "x", "1x", "0x1", "1_0", "1.0",
                     "1e3", "\u0661", "\u00b9", "9" * 61, "-" + "9" * 61, "0" * 60, "-" + "0" * 59 + "1"):
            self.assertIs(is_number_text(item), False)
