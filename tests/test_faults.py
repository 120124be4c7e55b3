"""Rows at fault: faults 1 to 5, the first that's so, the first row at fault."""

import unittest

from tests.calling import written

FIVE_CLASSES = ["class a 1 f", "class b 1", "class c 1", "class d 1", "class e 1"]
SIX_VARIABLES = ["let u nil", "let v nil", "let w nil", "let x nil", "let y nil", "let z nil"]


class OneFault(unittest.TestCase):
    def at_fault(self, fault, ahead, row):
        """Behind rows that are good, the row has this fault, wherever it stands."""
        self.assertGreaterEqual(written(*ahead, *["end" for line in ahead if line.startswith("times")])[0], 0)
        self.assertEqual(written(*ahead, row), [-1000 - 10 * len(ahead) - fault], row)
        self.assertEqual(written("", *ahead, " ", row, "end", "what"), [-1000 - 10 * len(ahead) - 20 - fault], row)

    def test_no_such_row_first_word(self):
        for row in ["what", "classes a 5", "snaps", "sna", "nil", "0", "ends", "7 snap", "CLASS a 5", "x"]:
            self.at_fault(1, [], row)

    def test_no_such_row_word_counts(self):
        ahead = ["class a 5 f g", "new x a", "new y a", "times 1"]
        for row in ["class", "class b", "class b 5 f g h", "class b 5 f g h i"]:
            self.at_fault(1, ahead, row)
        for row in ["new", "new x", "new x a a", "let", "let x", "let x x x", "let x nil nil"]:
            self.at_fault(1, ahead, row)
        for row in ["set", "set x", "set x f", "set x f x x", "get", "get x", "get x x", "get x x f f"]:
            self.at_fault(1, ahead, row)
        for row in ["times", "times 1 1", "end end", "end 1", "snap snap", "snap 0"]:
            self.at_fault(1, ahead, row)

    def test_no_such_row_numbers(self):
        for row in ["class b 0", "class b f", "class b 1000", "class b 05 f", "times 10", "times x", "times 01"]:
            self.at_fault(1, [], row)

    def test_names(self):
        ahead = ["class a 5 f g", "new x a"]
        for row in ["class nil 5", "class b 5 nil", "class b 5 f nil", "class b 5 7", "class abcdefghi 5"]:
            self.at_fault(2, ahead, row)
        for row in ["new nil a", "new 7 a", "let nil x", "let nil nil", "let 7 nil"]:
            self.at_fault(2, ahead, row)
        for row in ["get nil x f", "get 7 x f", "get x x nil", "get x x 7", "set x nil x", "set x 7 x", "set x 7 nil"]:
            self.at_fault(2, ahead, row)

    def test_names_twice(self):
        self.at_fault(2, ["class a 5"], "class a 5")
        self.at_fault(2, ["class a 5", "class b 5"], "class a 6 f")
        self.at_fault(2, [], "class a 5 f f")
        self.assertEqual(written("class a 5 a b", "class b 5 a b", "let a nil", "new f a"), [1, 2, 0, 0])

    def test_not_told(self):
        ahead = ["class a 5 f g", "new x a"]
        for row in ["new x b", "new x x", "new x nil", "new x f", "new y 7", "new y abcdefghi"]:
            self.at_fault(3, ahead, row)
        for row in ["set y f x", "set x f y", "set nil f x", "set nil f nil", "set x f a", "set 7 f x", "set x f 7"]:
            self.at_fault(3, ahead, row)
        for row in ["get x y f", "get y y f", "get x nil f", "get x 7 f", "let x y", "let y y", "let x 7", "let y a"]:
            self.at_fault(3, ahead, row)

    def test_told_later_is_not_ahead(self):
        self.assertEqual(written("new x a", "class a 5"), [-1003])
        self.assertEqual(written("let x y", "let y nil"), [-1003])
        self.assertEqual(written("class a 5 f", "set x f nil", "new x a"), [-1013])

    def test_told_ahead_in_the_text_is_enough(self):
        self.assertEqual(written("times 0", "class a 5 f", "new x a", "end", "new y a", "let y x"), [1, 3, 0, 0])

    def test_fields_are_not_looked_for(self):
        self.assertEqual(written("class a 5", "let x nil", "times 0", "set x f x", "get x x g", "end"), [0, 2, 0, 0])

    def test_nesting(self):
        self.at_fault(4, ["times 1", "times 2"], "times 3")
        self.at_fault(4, ["times 0", "times 0"], "times 0")
        self.at_fault(4, [], "end")
        self.assertEqual(written("times 1", "end", "end"), [-1024])
        self.assertEqual(written("times 1", "times 1", "end", "end", "end"), [-1044])
        self.assertEqual(written("times 1", "times 1", "end", "times 1", "end", "end", "times 1", "end"), [0, 8, 0, 0])

    def test_too_many_classes(self):
        self.at_fault(5, FIVE_CLASSES, "class g 1")
        self.assertEqual(written(*FIVE_CLASSES), [0, 0, 0, 0])

    def test_too_many_variables(self):
        for row in ["new t a", "let t nil", "let t u", "get t u f"]:
            self.at_fault(5, ["class a 1 f"] + SIX_VARIABLES, row)
        rows = ["class a 1 f"] + SIX_VARIABLES + ["new u a", "let v u", "get w u f", "let z nil"]
        self.assertEqual(written(*rows), [1, 10, 0, 0])


class TwoFaults(unittest.TestCase):
    """The fault told first is answered; no row can have the fourth along with the second, third or fifth."""

    def test_1_and_2(self):
        for row in ["class nil 0", "class 7", "class a 0 f f", "new nil", "let 7 nil nil", "set x nil", "get nil x f f"]:
            self.assertEqual(written("let x nil", row), [-1011], row)
        self.assertEqual(written("class a 5", "class a 0"), [-1011])

    def test_1_and_3(self):
        for row in ["new x b b", "set y f", "get x y", "let x y y"]:
            self.assertEqual(written("let x nil", row), [-1011], row)

    def test_1_and_4(self):
        self.assertEqual(written("times 1", "times 1", "times 10"), [-1021])
        self.assertEqual(written("times 1", "times 1", "times"), [-1021])
        self.assertEqual(written("end x"), [-1001])

    def test_1_and_5(self):
        self.assertEqual(written(*FIVE_CLASSES, "class g 0"), [-1051])
        self.assertEqual(written(*SIX_VARIABLES, "let t"), [-1061])

    def test_2_and_3(self):
        for row in ["new nil b", "new 7 b", "let nil y", "get nil y f", "get x y nil", "set y 7 x", "set x 7 y"]:
            self.assertEqual(written("let x nil", row), [-1012], row)

    def test_2_and_5(self):
        for row in ["class a 1", "class nil 1", "class g 1 f f", "class g 1 f 7"]:
            self.assertEqual(written(*FIVE_CLASSES, row), [-1052], row)
        for row in ["new 7 a", "let nil nil", "get t u nil"]:
            self.assertEqual(written("class a 1", *SIX_VARIABLES, row), [-1072], row)

    def test_3_and_5(self):
        for row in ["new t b", "let t t", "get t s f"]:
            self.assertEqual(written("class a 1", *SIX_VARIABLES, row), [-1073], row)


class TheText(unittest.TestCase):
    def test_first_row_at_fault(self):
        self.assertEqual(written("snap", "end", "what"), [-1014])
        self.assertEqual(written("snap", "what", "end"), [-1011])

    def test_a_row_at_fault_tells_nothing_of_others(self):
        self.assertEqual(written("new x a", "what"), [-1003])

    def test_a_fault_behind_where_the_program_would_stop(self):
        self.assertEqual(written("let x nil", "set x f x", "what"), [-1021])

    def test_times_without_an_end(self):
        self.assertEqual(written("times 1"), [-1014])
        self.assertEqual(written("times 0", "snap"), [-1024])
        self.assertEqual(written("times 1", "times 1", "end"), [-1034])
        self.assertEqual(written("times 1", "times 1"), [-1024])
        self.assertEqual(written("times 1", "end", "times 1", "snap", "", ""), [-1064])

    def test_a_row_at_fault_is_ahead_of_a_times_without_an_end(self):
        self.assertEqual(written("times 1", "what"), [-1011])
        self.assertEqual(written("times 1", "snap", "new x a"), [-1023])


if __name__ == "__main__":
    unittest.main()
