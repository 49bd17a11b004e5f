import string
import unittest

from balancehall import marks

SIGNS = [chr(code) for code in range(ord(" "), ord("~") + 1)]


class MarksTest(unittest.TestCase):
    def taken(self, asked):
        return "".join(sign for sign in SIGNS if asked(sign))

    def test_great_letters(self):
        self.assertEqual(self.taken(marks.is_great), string.ascii_uppercase)

    def test_small_letters(self):
        self.assertEqual(self.taken(marks.is_small), string.ascii_lowercase)

    def test_figures(self):
        self.assertEqual(self.taken(marks.is_figure), string.digits)

    def test_the_end_of_a_text_is_none_of_them(self):
        for asked in (marks.is_great, marks.is_small, marks.is_figure):
            self.assertIs(asked(""), False)

    def test_the_signs_between(self):
        signs = (marks.GROUP_BEGIN, marks.GROUP_END, marks.PIECE_DOT, marks.CHARGE_MARK, marks.PLUS, marks.MINUS)
        self.assertEqual("".join(signs), "().^+-")

    def test_a_count_is_written_but_for_one(self):
        shown = [marks.count_shown(count) for count in (1, 2, 9, 10, 11, 100, 999, 10 ** 12)]
        self.assertEqual(shown, ["", "2", "9", "10", "11", "100", "999", "1" + "0" * 12])


if __name__ == "__main__":
    unittest.main()
