"""What is answered of a snapshot: snap, things, way, keeps, most, and promise 2's refusals."""

import unittest

from tests.calling import ask, classes, cut, fewest, grows, keeps, looked, most, never, new, snap, things, way, write

# x holds 0; 0 leads to 1 and 2, both lead to 3, and 3 leads to 4.
DIAMOND = [
    "class node 10 l r",
    "new x node", "new a node", "set x l a",
    "new b node", "set x r b",
    "new c node", "set a l c", "set b r c",
    "new d node", "set c l d",
    "let a nil", "let b nil", "let c nil", "let d nil",
    "snap",
]

# x holds 0, which leads to 1, which leads to 2: each alone keeps all behind it.
CHAIN = [
    "class one 1 f", "class ten 10 f", "class big 100",
    "new x one", "new y ten", "set x f y",
    "new z big", "set y f z",
    "let y nil", "let z nil", "snap",
]

# 0 is let go; 1 to 3 are a ring that x comes to at 1; 4 links to itself and is let go.
RING = [
    "class n 3 f",
    "new x n", "new x n", "new y n", "set x f y",
    "new z n", "set y f z", "set z f x",
    "new y n", "set y f y", "let y nil", "let z nil",
    "snap", "let x nil", "snap",
]


class Snap(unittest.TestCase):
    def test_nothing_there(self):
        self.assertEqual(looked(["snap"], snap(0)), [[0, 0, 0]])
        self.assertEqual(looked(["let x nil", "snap"], snap(0)), [[0, 0, 0, 0]])

    def test_things_bytes_and_variables(self):
        self.assertEqual(looked(CHAIN, snap(0)), [[3, 3, 111, 1, 0, 0]])
        self.assertEqual(looked(DIAMOND, snap(0)), [[5, 5, 50, 1, 0, 0, 0, 0]])

    def test_not_come_to_any_more(self):
        self.assertEqual(looked(RING, snap(0), snap(1)), [[5, 3, 9, 2, 0, 0], [5, 0, 0, 0, 0, 0]])

    def test_by_then(self):
        rows = ["class a 5", "snap", "new x a", "snap", "new x a", "snap"]
        self.assertEqual(looked(rows, snap(0), snap(1), snap(2)), [[0, 0, 0, 0], [1, 1, 5, 1], [2, 1, 5, 2]])


class Things(unittest.TestCase):
    def test_nothing_there(self):
        self.assertEqual(looked(["snap"], things(0)), [[0]])

    def test_classes_rows_and_fields(self):
        self.assertEqual(looked(CHAIN, things(0)), [[3, 0, 3, 1, 1, 2, 1, 4, 1, 1, 3, 2, 6, 1, 0]])

    def test_not_come_to_any_more(self):
        made = [[0, 1], [0, 2], [0, 3], [0, 5], [0, 8]]
        holds = [0, 3, 4, 2, 5]
        for s, come_to in [(0, [0, 1, 1, 1, 0]), (1, [0, 0, 0, 0, 0])]:
            expected = [5]
            for number in range(5):
                expected += made[number] + [come_to[number], 1, holds[number]]
            self.assertEqual(looked(RING, things(s)), [expected])

    def test_by_then(self):
        rows = ["class a 5 f", "new x a", "snap", "new x a", "snap"]
        self.assertEqual(looked(rows, things(0), things(1)), [
            [1, 0, 1, 1, 1, 0],
            [2, 0, 1, 0, 1, 0, 0, 3, 1, 1, 0],
        ])


class Way(unittest.TestCase):
    def test_from_a_variable(self):
        self.assertEqual(looked(DIAMOND, way(0, 0)), [[1, 0, 0, 0]])

    def test_one_link_behind_another(self):
        self.assertEqual(looked(CHAIN, way(0, 1), way(0, 2)), [
            [2, 0, 0, 0, 1, 0, 1],
            [3, 0, 0, 0, 1, 0, 1, 2, 0, 2],
        ])

    def test_two_ways_as_short(self):
        self.assertEqual(looked(DIAMOND, way(0, 2), way(0, 3), way(0, 4)), [
            [2, 0, 0, 0, 1, 1, 2],
            [3, 0, 0, 0, 1, 0, 1, 2, 0, 3],
            [4, 0, 0, 0, 1, 0, 1, 2, 0, 3, 4, 0, 4],
        ])

    def test_the_order_is_the_links_not_the_things(self):
        # The first field leads to the thing made later, and the way by it comes first all the same.
        rows = ["class n 1 l r", "new x n", "new a n", "set x r a", "new b n", "set x l b", "new c n", "set a l c",
                "set b l c", "let a nil", "let b nil", "let c nil", "snap"]
        self.assertEqual(looked(rows, way(0, 3)), [[3, 0, 0, 0, 1, 0, 2, 3, 0, 3]])

    def test_two_links_of_one_thing_or_two_variables(self):
        rows = ["class n 1 l r", "new x n", "new y n", "set x r y", "set x l y", "let z x", "let y nil", "snap"]
        self.assertEqual(looked(rows, way(0, 0), way(0, 1)), [[1, 0, 0, 0], [2, 0, 0, 0, 1, 0, 1]])

    def test_the_lower_variable_comes_first(self):
        rows = ["class n 1 f", "let x nil", "new y n", "new z n", "new x n", "set x f y", "set z f y", "let v y",
                "let y nil", "let v nil", "snap"]
        self.assertEqual(looked(rows, way(0, 0)), [[2, 0, 0, 2, 3, 0, 0]])

    def test_fewer_links_are_ahead_of_earlier_ones(self):
        # By variable 0 there are three links to thing 2, by variable 1 two.
        rows = ["class n 1 f", "new x n", "new y n", "new c n", "new b n", "set x f b", "set b f c", "set y f c",
                "let b nil", "let c nil", "snap"]
        self.assertEqual(looked(rows, way(0, 2)), [[2, 0, 1, 1, 2, 0, 2]])

    def test_rings_and_links_to_itself(self):
        self.assertEqual(looked(RING, way(0, 3)), [[3, 0, 0, 1, 2, 0, 2, 3, 0, 3]])
        rows = ["class n 1 l r", "new x n", "new y n", "set x l x", "set x r y", "set y l x", "let y nil", "snap"]
        self.assertEqual(looked(rows, way(0, 0), way(0, 1)), [[1, 0, 0, 0], [2, 0, 0, 0, 1, 1, 1]])


class Keeps(unittest.TestCase):
    def test_chain(self):
        self.assertEqual(looked(CHAIN, keeps(0, 0), keeps(0, 1), keeps(0, 2)), [
            [0, 111, 3, 0, 1, 2], [1, 110, 2, 1, 2], [2, 100, 1, 2],
        ])

    def test_diamond(self):
        self.assertEqual(looked(DIAMOND, *[keeps(0, o) for o in range(5)]), [
            [0, 50, 5, 0, 1, 2, 3, 4],
            [1, 10, 1, 1],
            [1, 10, 1, 2],
            [1, 20, 2, 3, 4],
            [4, 10, 1, 4],
        ])

    def test_ring(self):
        self.assertEqual(looked(RING, keeps(0, 1), keeps(0, 2), keeps(0, 3)), [
            [0, 9, 3, 1, 2, 3], [2, 6, 2, 2, 3], [3, 3, 1, 3],
        ])

    def test_a_ring_that_two_variables_come_to(self):
        rows = ["class n 3 f", "new x n", "new y n", "set x f y", "set y f x", "snap"]
        self.assertEqual(looked(rows, keeps(0, 0), keeps(0, 1)), [[0, 3, 1, 0], [0, 3, 1, 1]])

    def test_no_keeper_where_two_things_keep_together(self):
        rows = ["class n 3 f", "new x n", "new y n", "new z n", "set x f z", "set y f z", "let z nil", "snap"]
        self.assertEqual(looked(rows, *[keeps(0, o) for o in range(3)]), [[0, 3, 1, 0], [0, 3, 1, 1], [0, 3, 1, 2]])

    def test_a_variable_beside_the_way(self):
        rows = ["class n 3 f", "new x n", "new y n", "set x f y", "snap", "let y nil", "snap"]
        self.assertEqual(looked(rows, keeps(0, 0), keeps(0, 1), keeps(1, 0), keeps(1, 1)), [
            [0, 3, 1, 0], [0, 3, 1, 1], [0, 6, 2, 0, 1], [1, 3, 1, 1],
        ])

    def test_a_link_to_itself(self):
        rows = ["class n 3 f", "new x n", "set x f x", "snap"]
        self.assertEqual(looked(rows, keeps(0, 0)), [[0, 3, 1, 0]])

    def test_links_from_what_is_not_come_to_do_not_keep(self):
        rows = ["class n 3 f", "new x n", "new y n", "set x f y", "new z n", "set z f y", "let y nil", "let z nil", "snap"]
        self.assertEqual(looked(rows, keeps(0, 0), keeps(0, 1)), [[0, 6, 2, 0, 1], [1, 3, 1, 1]])

    def test_a_keeper_of_a_higher_number(self):
        rows = ["class n 3 f", "new y n", "new x n", "set x f y", "let y nil", "snap"]
        self.assertEqual(looked(rows, keeps(0, 0), keeps(0, 1)), [[2, 3, 1, 0], [0, 6, 2, 0, 1]])


class Most(unittest.TestCase):
    def test_none_some_all_and_more(self):
        ordered = [0, 50, 3, 20, 1, 10, 2, 10, 4, 10]
        for n in range(6):
            self.assertEqual(looked(DIAMOND, most(0, n)), [[n] + ordered[:2 * n]])
        for n in [6, 16, 1000, 4294967295]:
            self.assertEqual(looked(DIAMOND, most(0, n)), [[5] + ordered])

    def test_the_most_first(self):
        rows = ["class a 5", "class b 7", "class c 999", "new x a", "new y c", "new z b", "new u c", "snap"]
        self.assertEqual(looked(rows, most(0, 9), most(0, 3)), [
            [4, 1, 999, 3, 999, 2, 7, 0, 5], [3, 1, 999, 3, 999, 2, 7],
        ])

    def test_only_what_is_come_to(self):
        self.assertEqual(looked(RING, most(0, 5), most(0, 3), most(0, 4)), [[3, 1, 9, 2, 6, 3, 3]] * 3)
        self.assertEqual(looked(RING, most(1, 0), most(1, 5)), [[0], [0]])


class Refusals(unittest.TestCase):
    def test_no_program(self):
        self.assertEqual(ask(snap(0), things(0), way(0, 0), keeps(0, 0), most(0, 0)), [[-2]] * 5)

    def test_no_such_snapshot(self):
        for s in [2, 3, 8, 4294967295]:
            self.assertEqual(looked(RING, snap(s), things(s), way(s, 1), keeps(s, 1), most(s, 1)), [[-2]] * 5)

    def test_no_such_snapshot_is_ahead_of_no_such_thing(self):
        self.assertEqual(looked(RING, way(2, 99), keeps(2, 99), way(2, 0), keeps(2, 0)), [[-2]] * 4)

    def test_no_such_thing(self):
        for o in [5, 6, 16, 4294967295]:
            self.assertEqual(looked(RING, way(0, o), keeps(0, o), way(1, o), keeps(1, o)), [[-3]] * 4)
        self.assertEqual(looked(["snap"], way(0, 0), keeps(0, 0)), [[-3]] * 2)

    def test_a_thing_made_later_is_not_there(self):
        rows = ["class a 5", "new x a", "snap", "new y a", "snap"]
        self.assertEqual(looked(rows, way(0, 1), keeps(0, 1)), [[-3]] * 2)
        self.assertEqual(looked(rows, way(1, 1), keeps(1, 1)), [[1, 0, 1, 1], [0, 5, 1, 1]])

    def test_not_come_to(self):
        for o in [0, 4]:
            self.assertEqual(looked(RING, way(0, o), keeps(0, o)), [[-6]] * 2)
        for o in range(5):
            self.assertEqual(looked(RING, way(1, o), keeps(1, o)), [[-6]] * 2)

    def test_refusals_change_nothing(self):
        asked = [snap(0), things(0), way(0, 1), keeps(0, 1), most(0, 9), cut(0, 0, 0), never(1), new(0, 1), classes(0)]
        refused = [way(0, 0), keeps(0, 9), snap(9), things(9), most(9, 9), cut(0, 1, 0), fewest(0, 0), fewest(0, 9),
                   never(2), new(1, 0), new(0, 2), grows(0, 1), grows(0, 2), classes(2)]
        answers = looked(RING, *asked, *refused, *asked)
        self.assertEqual([answer for answer in answers if answer[0] < 0], answers[9:23])
        self.assertEqual(answers[:9], answers[23:])


class Written(unittest.TestCase):
    def test_refused_writes_leave_the_snapshots(self):
        asked = [snap(0), things(0), way(0, 1), keeps(0, 2), most(0, 9), snap(1), snap(2), cut(0, 0, 0), fewest(0, 3),
                 never(1), new(0, 1), grows(0, 1), classes(0), classes(1), classes(2)]
        good = ask(write("\n".join(RING)), *asked)
        for text in ["what", "class a 5\nnew x a\nsnap\nwhat", "snap\ntimes 1", "snap" + " " * 597, [115, 256]]:
            answers = ask(write("\n".join(RING)), write(text), *asked)
            self.assertLess(answers[1][0], 0)
            self.assertEqual(answers[2:], good[1:])

    def test_a_refused_write_leaves_the_classes_and_the_rows(self):
        rows = ["class n 3 f", "let h nil", "times 3", "new x n", "set x f h", "let h x", "snap", "end"]
        asked = [classes(2), grows(0, 2), new(0, 2), never(2), cut(2, 3, 0), fewest(2, 0)]
        good = [[1, 3, 9], [1, 3, 3], [2, 1, 2, 0], [0, 0], [6, 2, 0, 1], [1, 2, 0, 0]]
        self.assertEqual(looked(rows, *asked), good)
        for text in ["class a 1\nclass b 2\nsnap\nsnap\nsnap\nend", "class a 1\ntimes 1", [0] * 601, [256]]:
            self.assertEqual(looked(rows, write(text), *asked)[1:], good)


if __name__ == "__main__":
    unittest.main()
