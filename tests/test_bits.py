import unittest

from rowsthatname.bits import bits_of, count_bits, mixed_bits, numbers_in, outcomes_of
from rowsthatname.errors import BadPaper
from rowsthatname.papers import has_form, word_of


class Bits(unittest.TestCase):

    def test_count_and_numbers(self):
        for bits, numbers in ((0, ()), (1, (0,)), (2, (1,)), (0b10110, (1, 2, 4)), (1 << 1023, (1023,)),
                              ((1 << 40) - 1, tuple(range(40)))):
            self.assertEqual(count_bits(bits), len(numbers))
            self.assertEqual(numbers_in(bits), numbers)

    def test_bits_that_are_not_the_same_in_all(self):
        for signs, mixed in (((), 0), ((0b101,), 0), ((0b101, 0b101), 0), ((0b101, 0b100), 0b001), ((0, 0b11), 0b11),
                             ((0b1100, 0b1010, 0b1001), 0b0111)):
            self.assertEqual(mixed_bits(signs), mixed)

    def test_outcomes_there_and_back(self):
        for heard in ((), (False,), (True,), (True, False, False), (False, True, True, False)):
            bits = bits_of(heard)
            self.assertEqual(numbers_in(bits), tuple(number for number, failed in enumerate(heard) if failed))
            self.assertEqual(outcomes_of(bits, len(heard)), heard)
            self.assertTrue(all(outcome is True or outcome is False for outcome in outcomes_of(bits, len(heard))))


class Forms(unittest.TestCase):

    def test_the_word_first_and_so_many_things(self):
        self.assertIs(has_form(("bears", None), "bears", 2), True)
        self.assertIs(has_form(("mixed", 1, 2, 3), "mixed", 4), True)
        for paper in (None, "bears", (), ("bears",), ("bears", 1, 2), ["bears", 1], ("mixed", 1), (b"bears", 1),
                      (("bears",), 1), (None, 1), {"bears": 1, 2: 3}):
            self.assertIs(has_form(paper, "bears", 2), False)

    def test_the_word_of_what_holds(self):
        self.assertEqual(word_of("bears", True), "bears")
        with self.assertRaises(BadPaper) as caught:
            word_of("mixed", False)
        self.assertEqual(caught.exception.word, "mixed")


if __name__ == "__main__":
    unittest.main()
