"""Numbers in digits, for point 6.12."""

import unittest

from tapline.decimals import decimal, natural_in, whole_in

NUMBERS = (0, 1, 9, 10, 123, 10 ** 17, 10 ** 18 - 1, 10 ** 18, 10 ** 18 + 1, 10 ** 36 - 1, 10 ** 36, 12 * 10 ** 53 + 7, 2 ** 900)


class Decimals(unittest.TestCase):
    def test_written(self):
        for n in NUMBERS:
            self.assertEqual(decimal(n), str(n))
            self.assertEqual(decimal(-n), str(-n))

    def test_read(self):
        for n in NUMBERS:
            self.assertEqual(natural_in(str(n)), n)
            self.assertEqual(whole_in(str(n)), n)
            if n:
                self.assertEqual(whole_in(str(-n)), -n)
                self.assertIsNone(natural_in(str(-n)))

    def test_very_long_ones(self):
        for digits in ("7" * 5000, "1" + "0" * 4999):
            self.assertEqual(decimal(natural_in(digits)), digits)
            self.assertEqual(decimal(whole_in("-" + digits)), "-" + digits)

    def test_what_is_none(self):
        for text in ("", " ", "00", "01", "-", "--1", "-0", "-01", "+1", "1 ", " 1", "1x", "x", "1-", "1.0", "1_0", "\u0661", "\u00b2"):
            self.assertIsNone(natural_in(text), text)
            self.assertIsNone(whole_in(text), text)


if __name__ == "__main__":
    unittest.main()
