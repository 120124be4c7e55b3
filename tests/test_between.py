"""What is answered of two snapshots, new and grows, and their refusals; and classes."""

import unittest

from tests.calling import ask, classes, grows, looked, new, snap, things

HIGHEST = 4294967295

# x is held from snapshot 1 on and let go ahead of 3; y from 2 on; z from 0 to 1 alone.
COMING = [
    "class n 1", "new z n", "snap", "new x n", "snap", "new y n", "let z nil", "snap", "let x nil", "snap",
]

# At each of six snapshots there is one more of row 8; of row 5 there are 1, 2, 3, then 1, 2, 3.
LISTS = [
    "class n 1 f", "let g nil",
    "times 2", "let h nil", "times 3",
    "new x n", "set x f h", "let h x",
    "new y n", "set y f g", "let g y",
    "snap", "end", "end",
]


class New(unittest.TestCase):
    def test_at_t_alone(self):
        self.assertEqual(looked(COMING, new(0, 1)), [[1, 1, 0]])

    def test_at_s_alone(self):
        self.assertEqual(looked(COMING, new(2, 3)), [[0, 1, 1]])

    def test_at_both_and_at_each_alone(self):
        self.assertEqual(looked(COMING, new(1, 2), new(0, 2), new(1, 3), new(0, 3)), [
            [1, 2, 1, 0], [2, 1, 2, 1, 0], [1, 2, 2, 0, 1], [1, 2, 1, 0],
        ])

    def test_the_same_snapshot(self):
        for s in range(4):
            self.assertEqual(looked(COMING, new(s, s)), [[0, 0]])

    def test_nothing_there(self):
        self.assertEqual(looked(["snap", "snap"], new(0, 0), new(0, 1)), [[0, 0], [0, 0]])

    def test_things_that_neither_comes_to(self):
        rows = ["class n 1", "new x n", "snap", "times 5", "new x n", "end", "snap"]
        self.assertEqual(looked(rows, new(0, 1)), [[1, 5, 1, 0]])

    def test_come_to_over_links(self):
        rows = ["class n 1 f", "new x n", "new y n", "set x f y", "let y nil", "snap", "set x f nil", "snap"]
        self.assertEqual(looked(rows, new(0, 1)), [[0, 1, 1]])

    def test_what_is_let_go_between_and_held_by_another_way(self):
        rows = ["class n 1 f", "new x n", "new y n", "snap", "set x f y", "let y x", "snap"]
        self.assertEqual(looked(rows, new(0, 1)), [[0, 0]])

    def test_things_are_told_rising(self):
        # The last of a list is come to first.
        rows = ["class n 1 f", "let h nil", "snap", "times 5", "new x n", "set x f h", "let h x", "end", "snap",
                "let h nil", "let x nil", "snap"]
        self.assertEqual(looked(rows, new(0, 1), new(1, 2), new(0, 2)), [
            [5, 0, 1, 2, 3, 4, 0], [0, 5, 0, 1, 2, 3, 4], [0, 0],
        ])

    def test_t_is_ahead_of_s(self):
        for s in range(1, 4):
            for t in range(s):
                self.assertEqual(looked(COMING, new(s, t)), [[-1]])

    def test_no_such_snapshot(self):
        self.assertEqual(ask(new(0, 0), new(1, 0), new(0, 1)), [[-2]] * 3)
        for none in [4, 5, 8, HIGHEST]:
            self.assertEqual(looked(COMING, new(none, 0), new(none, 3), new(0, none), new(3, none), new(none, none)),
                             [[-2]] * 5)
        self.assertEqual(looked(COMING, new(HIGHEST, 4), new(4, HIGHEST)), [[-2]] * 2)


class Grows(unittest.TestCase):
    def test_a_row_that_grows_at_each_within_times(self):
        self.assertEqual(looked(LISTS, grows(0, 2), grows(1, 4), grows(0, 5)), [[2, 5, 3, 8, 3], [1, 8, 5], [1, 8, 6]])

    def test_a_row_that_grows_but_not_at_each(self):
        # At the snapshots there are 1, 2, 2, 3, 4, 4 of row 4.
        rows = ["class n 1 f", "let h nil", "times 2", "times 2", "new x n", "set x f h", "let h x", "snap", "end",
                "snap", "end"]
        self.assertEqual(looked(rows, grows(0, 2), grows(0, 3), grows(1, 4), grows(2, 5), grows(2, 4)),
                         [[0]] * 4 + [[1, 4, 4]])

    def test_a_row_that_falls_between(self):
        # Of row 5 there are 1, 2, 3, then 1, 2, 3: more at the last than at the first is not enough.
        self.assertEqual(looked(LISTS, grows(0, 4), grows(1, 5), grows(2, 4)), [[1, 8, 5], [1, 8, 6], [1, 8, 5]])

    def test_rows_rising(self):
        # At snapshot 5 the lowest thing that's come to is one of row 8.
        self.assertEqual(looked(LISTS, grows(3, 5)), [[2, 5, 3, 8, 6]])

    def test_from_none_on(self):
        rows = ["class n 1 f", "let h nil", "snap", "times 2", "new x n", "set x f h", "let h x", "snap", "end"]
        self.assertEqual(looked(rows, grows(0, 2)), [[1, 4, 2]])

    def test_none_at_first_and_once_more_none(self):
        rows = ["class n 1 f", "let h nil", "snap", "snap", "times 2", "new x n", "set x f h", "let h x", "snap", "end"]
        self.assertEqual(looked(rows, grows(0, 2), grows(0, 3), grows(1, 3)), [[0], [0], [1, 5, 2]])

    def test_by_more_than_one(self):
        rows = ["class n 1 f", "let h nil", "times 3", "times 4", "new x n", "set x f h", "let h x", "end", "snap",
                "end"]
        self.assertEqual(looked(rows, grows(0, 2)), [[1, 4, 12]])

    def test_only_what_is_come_to_is_counted(self):
        rows = ["class n 1 f", "times 3", "new x n", "set x f x", "snap", "end"]
        self.assertEqual(looked(rows, things(2), grows(0, 2)), [[3, 0, 2, 0, 1, 1, 0, 2, 0, 1, 2, 0, 2, 1, 1, 3], [0]])

    def test_rows_not_classes_are_told_apart(self):
        # Two rows make things of one class by turns; together they grow at each snapshot, none does alone.
        rows = ["class n 1", "new a n", "snap", "new b n", "snap", "new c n", "snap"]
        self.assertEqual(looked(rows, grows(0, 2)), [[0]])

    def test_one_row_makes_what_several_variables_hold(self):
        rows = ["class n 1", "let a nil", "let b nil", "let c nil", "times 3", "let a b", "let b c", "new c n",
                "snap", "end"]
        self.assertEqual(looked(rows, grows(0, 2)), [[1, 7, 3]])

    def test_nothing_there(self):
        self.assertEqual(looked(["snap", "snap", "snap"], grows(0, 2)), [[0]])

    def test_t_is_s_and_one_and_two(self):
        for s in range(6):
            for t in range(6):
                answer = looked(LISTS, grows(s, t))[0]
                if t < s + 2:
                    self.assertEqual(answer, [-1])
                else:
                    self.assertGreaterEqual(answer[0], 1)

    def test_no_such_snapshot(self):
        self.assertEqual(ask(grows(0, 0), grows(1, 0), grows(0, 2)), [[-2]] * 3)
        for none in [6, 7, 8, HIGHEST]:
            asked = [grows(none, 0), grows(none, 5), grows(0, none), grows(5, none), grows(4, none)]
            self.assertEqual(looked(LISTS, *asked), [[-2]] * 5)
            self.assertEqual(looked(LISTS, grows(none, none), grows(none, HIGHEST), grows(HIGHEST, none)), [[-2]] * 3)


class Classes(unittest.TestCase):
    def test_without_classes(self):
        self.assertEqual(looked(["snap"], classes(0)), [[0]])
        self.assertEqual(looked(["let x nil", "snap"], classes(0)), [[0]])

    def test_one_class(self):
        rows = ["class n 7 f", "snap", "new x n", "snap", "new y n", "snap", "let x nil", "snap", "let y nil", "snap"]
        self.assertEqual(looked(rows, *[classes(s) for s in range(5)]), [
            [1, 0, 0], [1, 1, 7], [1, 2, 14], [1, 1, 7], [1, 0, 0],
        ])

    def test_five_classes(self):
        rows = ["class e 1", "class d 20 f", "class c 300 f g", "class b 4", "class a 999 g f",
                "new x a", "new y d", "set x f y", "new z d", "set x g z", "new y c", "new z a", "new y e", "snap"]
        self.assertEqual(looked(rows, classes(0), snap(0)), [
            [5, 1, 1, 2, 40, 0, 0, 0, 0, 2, 1998], [6, 5, 2039, 1, 6, 5],
        ])

    def test_a_class_of_which_nothing_is_come_to(self):
        rows = ["class a 5", "class b 7", "class c 9", "new x a", "new y b", "new y a", "snap"]
        self.assertEqual(looked(rows, classes(0)), [[3, 2, 10, 0, 0, 0, 0]])

    def test_a_ring_that_nobody_comes_to(self):
        rows = ["class a 5 f", "new x a", "set x f x", "new x a", "snap"]
        self.assertEqual(looked(rows, classes(0)), [[1, 1, 5]])

    def test_classes_told_behind_the_snapshot_or_the_stop(self):
        self.assertEqual(looked(["snap", "class a 5"], classes(0)), [[1, 0, 0]])
        rows = ["class a 5", "new x a", "snap", "set x f x", "class b 7", "new x b", "snap"]
        self.assertEqual(looked(rows, classes(0)), [[2, 1, 5, 0, 0]])
        self.assertEqual(looked(["snap", "times 0", "class a 5", "end"], classes(0)), [[1, 0, 0]])

    def test_no_such_snapshot(self):
        self.assertEqual(ask(classes(0)), [[-2]])
        self.assertEqual(looked(["class a 5", "snap"], classes(1), classes(8), classes(HIGHEST)), [[-2]] * 3)


if __name__ == "__main__":
    unittest.main()
