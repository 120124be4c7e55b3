"""A program's text: rows, words, numbers, names; promise 1's -1."""

import unittest

from tests.calling import ask, looked, things, write, written


class Rows(unittest.TestCase):
    def test_empty_text_is_one_row_that_does_nothing(self):
        self.assertEqual(written(""), [0, 0, 0, 0])

    def test_a_row_more_than_bytes_10(self):
        self.assertEqual(written("times 1"), [-1000 - 10 - 4])
        self.assertEqual(written("times 1", ""), [-1000 - 20 - 4])
        self.assertEqual(written("", "", "times 1", "", ""), [-1000 - 50 - 4])

    def test_rows_without_words_do_nothing_but_are_counted(self):
        self.assertEqual(written("", "   ", " "), [0, 0, 0, 0])
        self.assertEqual(written("", "   ", "what"), [-1021])
        self.assertEqual(looked(["", " ", "class a 5", "  ", "new x a", "", "snap"], things(0)), [[1, 0, 4, 1, 0]])

    def test_last_row_empty(self):
        self.assertEqual(written("snap", ""), [0, 1, 1, 0])
        self.assertEqual(written("snap", "", ""), [0, 1, 1, 0])

    def test_blanks_at_the_ends_and_several(self):
        self.assertEqual(written("  class   a  5    f ", " new x    a", "set   x f  x  ", " snap "), [1, 3, 1, 0])

    def test_other_bytes_are_no_blanks(self):
        for byte in [0, 9, 11, 12, 13, 31, 33, 127, 160, 255]:
            sign = bytes([byte]).decode("latin-1")
            self.assertEqual(written("snap" + sign), [-1001], byte)
            self.assertEqual(written(sign), [-1001], byte)
            self.assertEqual(written("class a" + sign + " 5"), [-1002], byte)
            self.assertEqual(written("class a 5" + sign), [-1001], byte)
            self.assertEqual(written("class a 5", "let x nil", "new x a" + sign), [-1023], byte)
            self.assertEqual(written("let x nil", "let x x" + sign), [-1013], byte)

    def test_bytes_next_to_digits_letters_and_blanks(self):
        for byte in [47, 58, 64, 65, 90, 91, 96, 123]:
            sign = bytes([byte]).decode("latin-1")
            self.assertEqual(written("class " + sign + " 5"), [-1002], byte)
            self.assertEqual(written("class a " + sign), [-1001], byte)
        self.assertEqual(written("SNAP"), [-1001])
        self.assertEqual(written("class A 5"), [-1002])

    def test_words_with_other_bytes_are_never_taken_for_one_another(self):
        self.assertEqual(written("class a! 5"), [-1002])
        self.assertEqual(written("class a 5 f! f#"), [-1002])


class Length(unittest.TestCase):
    def test_600_and_601_bytes(self):
        self.assertEqual(ask(write([32] * 600)), [[0, 0, 0, 0]])
        self.assertEqual(ask(write([32] * 601)), [[-1]])
        self.assertEqual(ask(write([32] * 640)), [[-1]])

    def test_600_rows_ends(self):
        self.assertEqual(ask(write([10] * 600)), [[0, 0, 0, 0]])
        self.assertEqual(ask(write([10] * 599 + [97])), [[-1000 - 5990 - 1]])
        self.assertEqual(ask(write([10] * 601)), [[-1]])

    def test_above_255(self):
        for number in [256, 266, 288, 1000, 4294967295]:
            self.assertEqual(ask(write([number])), [[-1]])
            self.assertEqual(ask(write([32] * 599 + [number])), [[-1]])
        self.assertEqual(ask(write([255])), [[-1001]])

    def test_ahead_of_every_fault(self):
        self.assertEqual(ask(write([97, 10] + [32] * 599)), [[-1]])
        self.assertEqual(ask(write([97, 10, 256])), [[-1]])
        self.assertEqual(ask(write([256] * 601)), [[-1]])


class Numbers(unittest.TestCase):
    def test_bytes_of_a_class(self):
        for word in ["1", "9", "10", "100", "255", "999"]:
            self.assertEqual(written("class a " + word), [0, 0, 0, 0], word)
        for word in ["0", "00", "000", "01", "010", "099", "1000", "9999", "0001", "-1", "+1", "1x", "x", "nil"]:
            self.assertEqual(written("class a " + word), [-1001], word)

    def test_bytes_are_those_told(self):
        for word in ["1", "10", "999"]:
            rows = ["class a " + word, "new x a", "snap"]
            self.assertEqual(looked(rows, [1, 0]), [[1, 1, int(word), 1]])

    def test_k(self):
        self.assertEqual(written("times 0", "snap", "end"), [0, 1, 0, 0])
        for number in range(1, 9):
            self.assertEqual(written("times " + str(number), "snap", "end"), [0, 1 + 2 * number, number, 0])
        self.assertEqual(written("times 9", "let x nil", "end"), [0, 19, 0, 0])
        for word in ["10", "99", "100", "00", "01", "09", "010", "1000", "x", "-1", "nil"]:
            self.assertEqual(written("times " + word, "end"), [-1001], word)


class Names(unittest.TestCase):
    def test_lengths(self):
        for word in ["a", "z", "abcdefgh", "zzzzzzzz", "ni", "nill", "nila"]:
            rows = ["class " + word + " 5 " + word, "new " + word + " " + word, " ".join(["set"] + [word] * 3)]
            self.assertEqual(written(*rows), [1, 2, 0, 0], word)

    def test_no_names(self):
        for word in ["abcdefghi", "nil", "a1", "1a", "1", "aB", "A", "a_b", "a-b"]:
            self.assertEqual(written("class " + word + " 5"), [-1002], word)
            self.assertEqual(written("class a 5 " + word), [-1002], word)
            self.assertEqual(written("class a 5 f " + word), [-1002], word)
            self.assertEqual(written("class a 5", "new " + word + " a"), [-1012], word)
            self.assertEqual(written("let " + word + " nil"), [-1002], word)
            self.assertEqual(written("let x nil", "get " + word + " x f"), [-1012], word)
            self.assertEqual(written("let x nil", "get x x " + word), [-1012], word)
            self.assertEqual(written("let x nil", "set x " + word + " nil"), [-1012], word)

    def test_words_of_rows_as_names(self):
        for word in ["class", "new", "set", "get", "let", "times", "end", "snap"]:
            rows = [
                "class " + word + " 7 " + word,
                "new " + word + " " + word,
                " ".join(["set"] + [word] * 3),
                " ".join(["get"] + [word] * 3),
                "let " + word + " " + word,
                "snap",
            ]
            self.assertEqual(written(*rows), [1, 5, 1, 0], word)
            self.assertEqual(looked(rows, [1, 0], [2, 0]), [[1, 1, 7, 1], [1, 0, 1, 1, 1, 1]], word)


if __name__ == "__main__":
    unittest.main()
