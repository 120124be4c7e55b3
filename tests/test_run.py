"""A program's run: steps, what rows do, and where the program stops."""

import unittest

from tests.calling import looked, snap, things, written


class Steps(unittest.TestCase):
    def test_rows_that_do_nothing_are_no_steps(self):
        self.assertEqual(written("", "class a 5", " ", "class b 5", "snap"), [0, 1, 1, 0])

    def test_each_row_is_a_step(self):
        rows = ["class a 5 f", "new x a", "set x f x", "get y x f", "let z y", "let z nil", "set x f nil", "snap"]
        self.assertEqual(written(*rows), [1, 7, 1, 0])

    def test_times_is_one_step_and_end_is_one_each_time(self):
        self.assertEqual(written("times 1", "end"), [0, 2, 0, 0])
        self.assertEqual(written("times 3", "end"), [0, 4, 0, 0])
        self.assertEqual(written("times 3", "class a 5", "", "let x nil", "end"), [0, 7, 0, 0])

    def test_times_0(self):
        self.assertEqual(written("times 0", "snap", "end"), [0, 1, 0, 0])
        self.assertEqual(written("times 0", "snap", "end", "snap"), [0, 2, 1, 0])
        self.assertEqual(written("times 0", "times 9", "snap", "end", "end", "snap"), [0, 2, 1, 0])
        self.assertEqual(written("times 2", "times 0", "snap", "end", "let x nil", "end"), [0, 1 + 2 * 3, 0, 0])

    def test_times_within_times(self):
        self.assertEqual(written("times 2", "times 3", "let x nil", "end", "end"), [0, 1 + 2 * (1 + 6 + 1), 0, 0])
        self.assertEqual(written("class a 5", "times 2", "times 3", "new x a", "end", "new x a", "end")[0], 8)
        rows = ["class a 5", "times 2", "times 1", "new x a", "end", "times 2", "new x a", "end", "end"]
        self.assertEqual(written(*rows), [6, 1 + 2 * (1 + 2 + 1 + 4 + 1), 0, 0])


class Rows(unittest.TestCase):
    def test_variables_are_numbered_as_told_and_hold_nothing_at_first(self):
        rows = ["class a 5 f", "snap", "new y a", "snap", "let x y", "let y nil", "snap", "get z x f", "snap"]
        answers = looked(rows, snap(0), snap(1), snap(2), snap(3))
        self.assertEqual([answer[3:] for answer in answers], [[0, 0, 0], [1, 0, 0], [0, 1, 0], [0, 1, 0]])

    def test_a_variable_told_in_rows_that_are_not_done(self):
        rows = ["class a 5", "times 0", "let z nil", "end", "new x a", "snap"]
        self.assertEqual(looked(rows, snap(0)), [[1, 1, 5, 0, 1]])

    def test_set_and_get(self):
        rows = ["class a 5 f g", "new x a", "new y a", "set x f y", "set y g x", "get z x f", "get y z g", "snap"]
        self.assertEqual(looked(rows, snap(0), things(0)), [
            [2, 2, 10, 1, 1, 2],
            [2, 0, 1, 1, 2, 2, 0, 0, 2, 1, 2, 0, 1],
        ])

    def test_set_to_nothing(self):
        ahead = ["class a 5 f", "new x a", "let y nil", "set x f x"]
        for row in ["set x f nil", "set x f y"]:
            self.assertEqual(looked(ahead + [row, "snap"], things(0)), [[1, 0, 1, 1, 1, 0]])

    def test_get_of_nothing(self):
        rows = ["class a 5 f", "new x a", "get x x f", "snap"]
        self.assertEqual(looked(rows, snap(0)), [[1, 0, 0, 0]])

    def test_get_into_the_variable_that_is_read(self):
        rows = ["class a 5 f", "new x a", "new y a", "set x f y", "get x x f", "snap"]
        self.assertEqual(looked(rows, snap(0)), [[2, 1, 5, 2, 2]])

    def test_let_holds_the_same_thing(self):
        rows = ["class a 5 f", "new x a", "let y x", "set y f x", "new x a", "snap"]
        self.assertEqual(looked(rows, snap(0), things(0)), [[2, 2, 10, 2, 1], [2, 0, 1, 1, 1, 1, 0, 4, 1, 1, 0]])

    def test_set_takes_what_is_held_then(self):
        rows = ["class a 5 f", "new x a", "new y a", "set x f y", "let y nil", "snap"]
        self.assertEqual(looked(rows, snap(0), things(0)), [[2, 2, 10, 1, 0], [2, 0, 1, 1, 1, 2, 0, 2, 1, 1, 0]])

    def test_a_snapshot_is_as_it_was_then(self):
        rows = ["class a 5 f", "new x a", "set x f x", "snap", "new y a", "set x f y", "snap", "set x f nil", "snap"]
        self.assertEqual(looked(rows, things(0), things(1), things(2)), [
            [1, 0, 1, 1, 1, 1],
            [2, 0, 1, 1, 1, 2, 0, 4, 1, 1, 0],
            [2, 0, 1, 1, 1, 0, 0, 4, 1, 1, 0],
        ])
        self.assertEqual(looked(rows, snap(0), snap(1), snap(2)), [[1, 1, 5, 1, 0], [2, 2, 10, 1, 2], [2, 2, 10, 1, 2]])

    def test_things_of_one_row(self):
        rows = ["class a 5", "class b 7 f", "times 3", "new x b", "end", "new x a", "snap"]
        self.assertEqual(looked(rows, things(0)), [
            [4, 1, 3, 0, 1, 0, 1, 3, 0, 1, 0, 1, 3, 0, 1, 0, 0, 5, 1, 0],
        ])

    def test_a_thing_keeps_its_class(self):
        rows = ["class a 5 f g", "class b 7 g f", "new x a", "new y b", "set x g y", "set y g x", "snap"]
        self.assertEqual(looked(rows, things(0)), [[2, 0, 2, 1, 2, 0, 2, 1, 3, 1, 2, 1, 0]])


class Stops(unittest.TestCase):
    def test_300_steps_are_made(self):
        # 1 + 9 * (1 + 9 * 3 + 1 + 4) is 298.
        rows = ["times 9", "times 9", "let x nil", "let x nil", "end"] + ["let x nil"] * 4 + ["end"]
        self.assertEqual(written(*rows), [0, 298, 0, 0])
        self.assertEqual(written(*rows, "let x nil", "let x nil"), [0, 300, 0, 0])
        self.assertEqual(written(*rows, "let x nil", "let x nil", "", "class a 5"), [0, 300, 0, 0])
        self.assertEqual(written(*rows, "let x nil", "let x nil", "", "let x nil"), [0, 300, 0, 14])

    def test_300_steps_within_times(self):
        # Seven rounds of the outer times are 7 * (1 + 36 + 1) steps, eight rounds of the inner one 8 * 4 more:
        # 1 + 266 + 1 + 32 is 300.
        rows = ["times 9", "times 9", "let x nil", "let x nil", "let x nil", "end", "end"]
        self.assertEqual(written(*rows), [0, 300, 0, 2 + 1])
        self.assertEqual(written("let x nil", *rows), [0, 300, 0, 6 + 1])

    def test_300_steps_at_times_and_end(self):
        fill = ["times 9", "times 9", "let x nil", "let x nil", "end"] + ["let x nil"] * 4 + ["end"]
        self.assertEqual(written(*fill, "let x nil", "times 9", "end"), [0, 300, 0, 13])
        self.assertEqual(written(*fill, "let x nil", "let x nil", "times 0", "end"), [0, 300, 0, 13])
        self.assertEqual(written(*fill, "let x nil", "times 0", "snap", "end"), [0, 300, 0, 0])
        self.assertEqual(written(*fill, "let x nil", "times 0", "snap", "end", "snap"), [0, 300, 0, 15])

    def test_steps_are_looked_at_ahead_of_all_else(self):
        fill = ["times 9", "times 9", "let x nil", "let x nil", "end"] + ["let x nil"] * 4 + ["end"]
        self.assertEqual(written(*fill, "let x nil", "let x nil", "set x f nil"), [0, 300, 0, 13])
        self.assertEqual(written(*fill, "let x nil", "set x f nil"), [0, 300, 0, 12])
        self.assertEqual(written(*fill, "set x f nil"), [0, 299, 0, 11])

    def test_16_things(self):
        rows = ["class a 5", "times 4", "times 4", "new x a", "end", "end"]
        self.assertEqual(written(*rows), [16, 1 + 4 * (1 + 8 + 1), 0, 0])
        self.assertEqual(written(*rows, "new x a"), [16, 42, 0, 7])
        self.assertEqual(written(*rows, "snap", "let x nil", "new x a", "snap"), [16, 44, 1, 9])
        # The first round of the outer times is 1 + 18 + 1 steps; of the second one 7 rounds of the inner are done.
        rows = ["class a 5", "times 3", "times 9", "new x a", "end", "end"]
        self.assertEqual(written(*rows), [16, 1 + 20 + 1 + 14 + 1, 0, 4])

    def test_at_the_stop_the_row_is_not_done(self):
        rows = ["class a 5", "times 2", "times 8", "new x a", "end", "snap", "end", "new y a", "snap"]
        self.assertEqual(written(*rows)[2:], [2, 8])
        self.assertEqual(looked(rows, snap(1), snap(2)), [[16, 1, 5, 16, 0], [-2]])

    def test_a_variable_that_holds_nothing(self):
        self.assertEqual(written("let x nil", "set x f x", "snap"), [0, 2, 0, 2])
        self.assertEqual(written("let x nil", "set x f nil", "snap"), [0, 2, 0, 2])
        self.assertEqual(written("let x nil", "get x x f", "snap"), [0, 2, 0, 2])
        self.assertEqual(written("class a 5 f", "let x nil", "new y a", "snap", "get y x f", "snap"), [1, 4, 1, 5])
        self.assertEqual(written("class a 5 f", "let x nil", "new y a", "snap", "set x f y", "snap"), [1, 4, 1, 5])

    def test_the_other_variable_may_hold_nothing(self):
        self.assertEqual(written("class a 5 f", "let x nil", "new y a", "set y f x", "get x y f"), [1, 4, 0, 0])

    def test_a_class_without_the_field(self):
        ahead = ["class a 5 f", "class b 5 g", "class c 5", "new x a", "new y b", "new z c"]
        for row in ["set x g y", "set x g nil", "set y f x", "set z f x", "get x x g", "get z y f", "get x z g"]:
            self.assertEqual(written(*ahead, "snap", row, "snap"), [3, 5, 1, 8], row)
        for row in ["set x f y", "set y g x", "get z x f", "get z y g"]:
            self.assertEqual(written(*ahead, "snap", row, "snap"), [3, 6, 2, 0], row)

    def test_a_stop_in_a_later_round(self):
        rows = ["class a 5 f", "new x a", "new y a", "set x f y", "times 5", "get x x f", "snap", "end"]
        self.assertEqual(written(*rows), [2, 11, 2, 6])

    def test_8_snapshots(self):
        self.assertEqual(written("times 8", "snap", "end"), [0, 17, 8, 0])
        self.assertEqual(written("times 8", "snap", "end", "snap"), [0, 18, 8, 4])
        self.assertEqual(written("times 9", "snap", "end"), [0, 18, 8, 2])
        self.assertEqual(looked(["times 9", "snap", "end"], snap(7), snap(8)), [[0, 0, 0], [-2]])


if __name__ == "__main__":
    unittest.main()
