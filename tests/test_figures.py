"""Numbers by figures, as points [11], [17] and [19] ask for them."""

import unittest

from chipbus.figures import by_figures, signed_of, sixteen_of, ten_of, two_figures

# Signs that int takes, or that stand beside the figures.
NO_FIGURES = ("", " ", "-", "+", "_", ".", "g", "/", ":", "`", "@", "A", "F", "x", "0x", "0x1", "1_0", "+1", " 1", "1 ",
              "1\n", "\n1", "\t1", "1\r", "1.", "--1", "1-", "- 1", "-+1", "1h")


class TestWriting(unittest.TestCase):
    def test_all_numbers_of_four_figures(self):
        for number in range(2 ** 16):
            self.assertEqual(by_figures(number, 4), "%04x" % number)

    def test_as_many_figures_as_asked_for(self):
        self.assertEqual([by_figures(0, many) for many in range(5)], ["", "0", "00", "000", "0000"])
        self.assertEqual([by_figures(10, many) for many in range(1, 5)], ["a", "0a", "00a", "000a"])

    def test_words(self):
        self.assertEqual([two_figures(word) for word in range(256)], ["%02x" % word for word in range(256)])


class TestBaseSixteen(unittest.TestCase):
    def test_every_number_by_each_many_figures(self):
        for figures in range(1, 5):
            for number in range(16 ** figures):
                text = ("%x" % number).zfill(figures)
                self.assertEqual(sixteen_of(text, 1, 4), number)
                self.assertEqual(sixteen_of(text, figures, figures), number)

    def test_too_few_or_too_many_figures(self):
        for many in range(1, 8):
            for figures in range(8):
                told = sixteen_of("1" * figures, many, many)
                self.assertEqual(told, int("1" * many, 16) if figures == many else None)
        self.assertIsNone(sixteen_of("0", 2, 4))
        self.assertIsNone(sixteen_of("00000", 2, 4))
        self.assertIsNone(sixteen_of("0" * 10000, 1, 4))

    def test_no_figures_at_all(self):
        self.assertIsNone(sixteen_of("", 0, 0))
        self.assertIsNone(sixteen_of("", 0, 4))

    def test_other_signs(self):
        for text in NO_FIGURES + ("-1", "-a", "aA", "Aa", "ag", "ga"):
            self.assertIsNone(sixteen_of(text, 1, 4), text)


class TestBaseTen(unittest.TestCase):
    def test_every_number(self):
        for number in range(10000):
            self.assertEqual(ten_of(str(number), 4), number)
            self.assertEqual(ten_of(str(number), 2), number if number < 100 else None)

    def test_noughts_ahead(self):
        for text in ("00", "01", "007", "0000", "010", "0123"):
            self.assertIsNone(ten_of(text, 4), text)
        self.assertEqual(ten_of("0", 4), 0)

    def test_too_many_figures(self):
        self.assertIsNone(ten_of("10000", 4))
        # Python itself refuses to read so many.
        self.assertIsNone(ten_of("1" * 10000, 4))

    def test_other_signs(self):
        for text in NO_FIGURES + ("-1", "-0", "a", "1a", "a1"):
            self.assertIsNone(ten_of(text, 4), text)


class TestSigned(unittest.TestCase):
    def test_every_number(self):
        for number in range(-9999, 10000):
            self.assertEqual(signed_of(str(number), 4), number)

    def test_nought_has_no_sign(self):
        for text in ("-0", "-00", "-000", "-"):
            self.assertIsNone(signed_of(text, 4), text)
        self.assertEqual(signed_of("0", 4), 0)

    def test_noughts_ahead(self):
        for text in ("00", "01", "-01", "-0001", "-010"):
            self.assertIsNone(signed_of(text, 4), text)

    def test_too_many_figures(self):
        for text in ("10000", "-10000", "-00001", "-" + "1" * 10000):
            self.assertIsNone(signed_of(text, 4), text)

    def test_other_signs(self):
        for text in NO_FIGURES + ("a", "-a", "--0", "-_1", "-\n1"):
            self.assertIsNone(signed_of(text, 4), text)


if __name__ == "__main__":
    unittest.main()
