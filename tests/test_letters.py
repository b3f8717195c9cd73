"""Point 4: the letters, up and down, are tuples."""

import unittest

from copydesks import letters

LONG = 10 ** 32 - 1


class TestLetters(unittest.TestCase):
    def check(self, letter, told):
        self.assertIs(type(letter), tuple)
        self.assertEqual(letter, told)

    def test_ask(self):
        self.check(letters.ask_letter(3, "read"), ("ask", 3, "read"))
        self.check(letters.ask_letter(0, "write"), ("ask", 0, "write"))

    def test_answer_with_a_number_or_none(self):
        for number in (0, 7, -7, LONG, -LONG, None):
            self.check(letters.answer_letter(2, number), ("answer", 2, number))

    def test_gave(self):
        for number in (0, 7, -7, LONG, -LONG):
            self.check(letters.gave_letter(2, number), ("gave", 2, number))

    def test_lend(self):
        for number in (0, 7, -7, LONG, -LONG):
            self.check(letters.lend_letter(1, "read", number), ("lend", 1, "read", number))
            self.check(letters.lend_letter(1, "write", number), ("lend", 1, "write", number))

    def test_back(self):
        self.check(letters.back_letter(4, "read"), ("back", 4, "read"))
        self.check(letters.back_letter(4, "none"), ("back", 4, "none"))

    def test_the_rights_are_told_as_texts(self):
        self.assertEqual((letters.NONE, letters.READ, letters.WRITE), ("none", "read", "write"))


if __name__ == "__main__":
    unittest.main()
