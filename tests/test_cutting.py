"""Links that are cut: cut and fewest, and their refusals."""

import unittest

from tests.calling import cut, fewest, looked, snap
from tests.test_heap import DIAMOND

HIGHEST = 4294967295

# 0 is let go and leads to 1, which x holds; 2 is let go, links to itself and leads to 1.
LET_GO = [
    "class n 3 f g",
    "new y n", "new x n", "set y f x",
    "new y n", "set y f y", "set y g x", "let y nil",
    "snap",
]

# Sixteen things, of which each leads to the two made ahead of it, and six variables that hold the last ones; 0 leads
# to itself and to 15.
FULL = [
    "class n 7 f g",
    "new a n", "let b a", "let c a", "let d a", "let z a",
    "times 3", "times 5",
    "new x n", "set x f a", "set x g b", "let d c", "let c b", "let b a", "let a x",
    "end", "end",
    "set z f z", "set z g x", "let z d",
    "snap",
]


class Cut(unittest.TestCase):
    def test_a_link_from_a_variable(self):
        self.assertEqual(looked(DIAMOND, cut(0, 0, 0)), [[50, 5, 0, 1, 2, 3, 4]])
        rows = ["class a 5", "class b 7", "new x a", "new y b", "snap"]
        self.assertEqual(looked(rows, cut(0, 0, 0), cut(0, 0, 1)), [[5, 1, 0], [7, 1, 1]])

    def test_a_link_from_a_thing(self):
        self.assertEqual(looked(DIAMOND, cut(0, 1, 0), cut(0, 1, 1), cut(0, 4, 0)), [
            [10, 1, 1], [10, 1, 2], [10, 1, 4],
        ])

    def test_what_lies_behind_goes_too(self):
        rows = ["class a 5 f", "class b 7 f", "new x a", "new y b", "set x f y", "new z a", "set y f z", "let y nil",
                "let z nil", "snap"]
        self.assertEqual(looked(rows, cut(0, 0, 0), cut(0, 1, 0), cut(0, 2, 0)), [
            [17, 3, 0, 1, 2], [12, 2, 1, 2], [5, 1, 2],
        ])

    def test_things_are_told_rising(self):
        # x holds 2, which leads to 1, which leads to 0.
        rows = ["class a 5 f", "new z a", "new y a", "set y f z", "new x a", "set x f y", "let y nil", "let z nil",
                "snap"]
        self.assertEqual(looked(rows, cut(0, 0, 2), cut(0, 3, 0), cut(0, 2, 0)), [
            [15, 3, 0, 1, 2], [10, 2, 0, 1], [5, 1, 0],
        ])

    def test_nothing_goes(self):
        self.assertEqual(looked(DIAMOND, cut(0, 2, 0), cut(0, 3, 1)), [[0, 0], [0, 0]])
        rows = ["class n 3 f g", "new x n", "let y x", "set x f x", "set x g x", "snap"]
        links = [(0, 0), (0, 1), (1, 0), (1, 1)]
        self.assertEqual(looked(rows, *[cut(0, *link) for link in links]), [[0, 0]] * 4)

    def test_one_of_two_links_between_the_same(self):
        rows = ["class n 3 f g", "new x n", "new y n", "set x f y", "set x g y", "let y nil", "snap", "set x g nil",
                "snap"]
        self.assertEqual(looked(rows, cut(0, 1, 0), cut(0, 1, 1), cut(1, 1, 0)), [[0, 0], [0, 0], [3, 1, 1]])

    def test_a_ring_goes_whole(self):
        rows = ["class n 3 f", "new x n", "new y n", "set x f y", "set y f x", "let y nil", "snap"]
        self.assertEqual(looked(rows, cut(0, 0, 0), cut(0, 1, 0), cut(0, 2, 0)), [[6, 2, 0, 1], [3, 1, 1], [0, 0]])

    def test_what_was_let_go_does_not_go(self):
        self.assertEqual(looked(LET_GO, cut(0, 0, 1)), [[3, 1, 1]])

    def test_links_of_a_class_in_its_fields_order(self):
        rows = ["class n 3 g f", "new x n", "new y n", "set x f y", "new z n", "set x g z", "let y nil", "let z nil",
                "snap"]
        self.assertEqual(looked(rows, cut(0, 1, 0), cut(0, 1, 1)), [[3, 1, 2], [3, 1, 1]])

    def test_a_cut_changes_nothing(self):
        self.assertEqual(looked(DIAMOND, cut(0, 0, 0), cut(0, 0, 0), snap(0)), [
            [50, 5, 0, 1, 2, 3, 4], [50, 5, 0, 1, 2, 3, 4], [5, 5, 50, 1, 0, 0, 0, 0],
        ])


class NoSuchLink(unittest.TestCase):
    def refused(self, rows, *links):
        self.assertEqual(looked(rows, *[cut(0, *link) for link in links]), [[-6]] * len(links))

    def test_it_holds_nothing(self):
        self.refused(DIAMOND, (0, 1), (0, 4), (2, 1), (3, 0), (4, 1), (5, 0), (5, 1))

    def test_it_begins_at_a_thing_that_is_not_come_to(self):
        self.refused(LET_GO, (1, 0), (3, 0), (3, 1), (1, 1))

    def test_no_such_variable(self):
        self.refused(DIAMOND, (0, 5), (0, 6), (0, HIGHEST))
        self.refused(["snap"], (0, 0), (0, 1), (1, 0))

    def test_no_such_field(self):
        self.refused(DIAMOND, (1, 2), (4, 2), (1, 5), (1, HIGHEST))
        self.refused(["class a 5", "new x a", "snap"], (1, 0), (1, 1))

    def test_no_such_thing(self):
        self.refused(DIAMOND, (6, 0), (6, 1), (7, 0), (17, 0), (HIGHEST, 0), (HIGHEST, HIGHEST))

    def test_a_thing_made_later(self):
        rows = ["class a 5 f", "new x a", "snap", "new y a", "set y f x", "snap"]
        self.assertEqual(looked(rows, cut(0, 2, 0), cut(1, 2, 0), cut(0, 0, 1), cut(1, 0, 1)), [
            [-6], [0, 0], [-6], [5, 1, 1],
        ])

    def test_no_such_snapshot_is_ahead_of_it(self):
        for s in [1, 2, 8, HIGHEST]:
            self.assertEqual(looked(DIAMOND, cut(s, 0, 0), cut(s, 0, 1), cut(s, HIGHEST, HIGHEST)), [[-2]] * 3)


def told(rows, o):
    """What fewest answers of the first snapshot: the links, each as three numbers, or the refusal."""
    answer = looked(rows, fewest(0, o))[0]
    if answer[0] < 0:
        assert len(answer) == 1, answer
        return answer[0]
    assert len(answer) == 1 + 3 * answer[0], answer
    return [tuple(answer[place:place + 3]) for place in range(1, len(answer), 3)]


class Fewest(unittest.TestCase):
    def test_form(self):
        rows = ["class n 1", "new x n", "snap", "let y x", "snap", "let z x", "snap"]
        self.assertEqual(looked(rows, fewest(0, 0)), [[1, 0, 0, 0]])
        self.assertEqual(looked(rows, fewest(1, 0), fewest(2, 0)), [
            [2, 0, 0, 0, 0, 1, 0], [3, 0, 0, 0, 0, 1, 0, 0, 2, 0],
        ])

    def test_one_link(self):
        # Each row of one link does for all that lies behind; the variable's comes first.
        for o in range(5):
            self.assertEqual(told(DIAMOND, o), [(0, 0, 0)])

    def test_fewer_links_are_ahead_of_earlier_ones(self):
        rows = ["class n 1 f", "new x n", "new y n", "new z n", "set x f z", "set y f z", "new w n", "set z f w",
                "let z nil", "let w nil", "snap"]
        self.assertEqual(told(rows, 3), [(3, 0, 3)])
        self.assertEqual(told(rows, 2), [(0, 0, 0), (0, 1, 1)])
        self.assertEqual(told(rows, 0), [(0, 0, 0)])
        self.assertEqual(told(rows, 1), [(0, 1, 1)])

    def test_a_link_that_is_not_the_first(self):
        rows = ["class n 1 f", "new x n", "let y x", "let z x", "let w x", "new v n", "set x f v", "let v nil", "snap"]
        self.assertEqual(told(rows, 0), -7)
        self.assertEqual(told(rows, 1), [(1, 0, 1)])

    def test_two_links_from_things(self):
        # Four variables hold 0, which leads to 1 and 2; 1 leads to 2, too.
        ahead = ["class n 1 f g", "new x n", "let y x", "let z x", "let w x", "new a n", "new b n"]
        behind = ["set a f b", "let a nil", "let b nil", "snap"]
        self.assertEqual(told(ahead + ["set x f a", "set x g b"] + behind, 2), [(1, 0, 1), (1, 1, 2)])
        self.assertEqual(told(ahead + ["set x g a", "set x f b"] + behind, 2), [(1, 0, 2), (1, 1, 1)])

    def test_rows_that_differ_at_the_second_place(self):
        # x holds 3 by itself; four variables in all hold 0, which leads to 1, then to 2, then to 3.
        rows = ["class n 1 f", "new a n", "let b a", "let c a", "let d a", "new e n", "set a f e", "new x n",
                "set e f x", "let e x", "new x n", "set e f x", "let e nil", "snap"]
        self.assertEqual(told(rows, 3), [(0, 5, 3), (1, 0, 1)])
        self.assertEqual(told(rows, 2), [(1, 0, 1)])

    def test_three_links_from_variables_and_things(self):
        # y holds 1; four variables hold 0, which leads to 1 by both fields.
        rows = ["class n 1 f g", "new x n", "new y n", "set x f y", "set x g y", "let z x", "let w x", "let v x",
                "snap"]
        self.assertEqual(told(rows, 1), [(0, 1, 1), (1, 0, 1), (1, 1, 1)])
        self.assertEqual(told(rows, 0), -7)

    def test_three_links_where_each_of_several_rows_does(self):
        # x, y and z hold a thing each that leads to 3.
        rows = ["class n 1 f", "new x n", "new y n", "new z n", "new w n", "set x f w", "set y f w", "set z f w",
                "let w nil", "snap"]
        self.assertEqual(told(rows, 3), [(0, 0, 0), (0, 1, 1), (0, 2, 2)])

    def test_three_are_not_enough(self):
        for more in range(3):
            rows = ["class n 1", "new a n", "let b a", "let c a", "let d a", "let e a", "let f a"][:5 + more] + ["snap"]
            self.assertEqual(told(rows, 0), -7)
        rows = ["class n 1 f g", "new x n", "new y n", "set x f y", "set x g y", "let z x", "let w x", "let v x",
                "let u y", "snap"]
        self.assertEqual(told(rows, 1), -7)

    def test_links_from_what_is_not_come_to(self):
        self.assertEqual(told(LET_GO, 1), [(0, 1, 1)])

    def test_a_thing_that_links_to_itself(self):
        rows = ["class n 1 f g", "new x n", "set x f x", "set x g x", "snap"]
        self.assertEqual(told(rows, 0), [(0, 0, 0)])

    def test_a_ring(self):
        rows = ["class n 1 f", "new x n", "new y n", "set x f y", "set y f x", "snap"]
        self.assertEqual(told(rows, 0), [(0, 0, 0), (0, 1, 1)])
        self.assertEqual(told(rows, 1), [(0, 0, 0), (0, 1, 1)])

    def test_sixteen_things_with_two_fields_and_six_variables(self):
        self.assertEqual(looked(FULL, snap(0)), [[16, 16, 112, 16, 15, 14, 13, 13, 16]])
        self.assertEqual(told(FULL, 0), [(2, 0, 0), (2, 1, 0), (3, 1, 0)])
        self.assertEqual(told(FULL, 1), [(3, 0, 1), (4, 1, 1)])
        self.assertEqual(told(FULL, 11), [(13, 0, 11), (14, 1, 11)])
        self.assertEqual(told(FULL, 12), -7)
        self.assertEqual(told(FULL, 13), [(0, 2, 13), (15, 0, 13), (16, 1, 13)])
        self.assertEqual(told(FULL, 14), [(0, 1, 14), (16, 0, 14)])
        self.assertEqual(told(FULL, 15), [(0, 0, 15), (0, 5, 15), (1, 1, 15)])

    def test_refusals_and_their_order(self):
        for o in [0, 5, HIGHEST]:
            self.assertEqual(looked(LET_GO, fewest(1, o), fewest(HIGHEST, o)), [[-2], [-2]])
        for o in [3, 16, HIGHEST]:
            self.assertEqual(looked(LET_GO, fewest(0, o)), [[-3]])
        for o in [0, 2]:
            self.assertEqual(looked(LET_GO, fewest(0, o)), [[-6]])

    def test_not_come_to_is_ahead_of_not_enough(self):
        # Five things lead to 0, but nobody comes to it.
        rows = ["class n 1 f", "new a n", "times 5", "new b n", "set b f a", "end", "let a nil", "let b nil", "snap"]
        self.assertEqual(told(rows, 0), -6)


if __name__ == "__main__":
    unittest.main()
