"""Counting: what never answers."""

import unittest

from tests.calling import ask, looked, never


class Never(unittest.TestCase):
    def never_freed(self, rows, *answer):
        self.assertEqual(looked(rows + ["snap"], never(0)), [list(answer)])

    def test_nothing_there(self):
        self.never_freed([], 0, 0)
        self.never_freed(["class n 3 f", "let x nil"], 0, 0)

    def test_a_ring_that_nobody_comes_to(self):
        rows = ["class n 3 f", "class m 5 f", "new x n", "new y m", "set x f y", "set y f x"]
        self.never_freed(rows + ["let x nil", "let y nil"], 8, 2, 0, 1)

    def test_a_ring_that_is_still_come_to(self):
        rows = ["class n 3 f", "new x n", "new y n", "set x f y", "set y f x"]
        self.never_freed(rows, 0, 0)
        self.never_freed(rows + ["let x nil"], 0, 0)
        self.never_freed(rows + ["let y nil"], 0, 0)

    def test_a_ring_that_a_thing_holds_that_is_come_to(self):
        rows = ["class n 3 f g", "new x n", "new y n", "set x f y", "set y f x", "new z n", "set z g x", "let x nil",
                "let y nil"]
        self.never_freed(rows, 0, 0)
        self.never_freed(rows + ["set z g nil"], 6, 2, 0, 1)
        # Once its holder is let go, that one is freed and the ring isn't.
        self.never_freed(rows + ["let z nil"], 6, 2, 0, 1)

    def test_a_thing_that_links_to_itself(self):
        self.never_freed(["class n 3 f", "new x n", "set x f x"], 0, 0)
        self.never_freed(["class n 3 f", "new x n", "set x f x", "let x nil"], 3, 1, 0)
        self.never_freed(["class n 3 f g", "new x n", "set x g x", "new x n", "set x f x", "set x g x", "new x n"], 6,
                         2, 0, 1)

    def test_a_chain_that_counting_frees(self):
        rows = ["class n 3 f", "new x n", "new y n", "set x f y", "new z n", "set y f z", "new w n", "set z f w"]
        rows += ["let y nil", "let z nil", "let w nil"]
        self.never_freed(rows, 0, 0)
        self.never_freed(rows + ["let x nil"], 0, 0)

    def test_a_chain_whose_first_thing_was_made_last(self):
        rows = ["class n 3 f", "let h nil", "times 9", "new x n", "set x f h", "let h x", "end", "let h nil",
                "let x nil"]
        self.never_freed(rows, 0, 0)

    def test_two_links_to_one_thing(self):
        rows = ["class n 3 f g", "new x n", "new y n", "set x f y", "set x g y", "let y nil"]
        self.never_freed(rows + ["let x nil"], 0, 0)
        self.never_freed(rows, 0, 0)

    def test_held_by_a_ring_only(self):
        # 0 and 1 are a ring; 1 leads to 2, which leads to 3.
        rows = ["class n 3 f g", "new x n", "new y n", "set x f y", "set y f x"]
        rows += ["new z n", "set y g z", "new w n", "set z f w", "let x nil", "let y nil"]
        self.never_freed(rows + ["let z nil", "let w nil"], 12, 4, 0, 1, 2, 3)
        # What's come to beside that isn't told.
        self.never_freed(rows + ["let z nil"], 9, 3, 0, 1, 2)
        self.never_freed(rows + ["let w nil"], 6, 2, 0, 1)

    def test_held_by_a_ring_and_a_chain(self):
        # 2 is freed, and its link to 1 with it; 0 holds 1 and itself.
        rows = ["class n 3 f g", "new x n", "new y n", "set x f y", "set x g x", "new z n", "set z f y"]
        self.never_freed(rows + ["let x nil", "let y nil", "let z nil"], 6, 2, 0, 1)

    def test_a_ring_that_leads_to_what_is_come_to(self):
        rows = ["class n 3 f g", "new x n", "new y n", "set x f y", "set y f x", "new z n", "set y g z", "new w n",
                "set z f w"]
        self.never_freed(rows + ["let x nil", "let y nil", "let w nil"], 6, 2, 0, 1)

    def test_two_rings(self):
        rows = ["class n 3 f", "times 2", "new x n", "new y n", "set x f y", "set y f x", "end"]
        self.never_freed(rows, 6, 2, 0, 1)
        self.never_freed(rows + ["let x nil"], 6, 2, 0, 1)
        self.never_freed(rows + ["let x nil", "let y nil"], 12, 4, 0, 1, 2, 3)

    def test_a_ring_of_sixteen(self):
        rows = ["class n 999 f", "new z n", "let h z", "times 3", "times 5", "new x n", "set x f h", "let h x", "end",
                "end"]
        rows += ["set z f x", "let h nil", "let x nil"]
        self.never_freed(rows, 0, 0)
        self.never_freed(rows + ["let z nil"], 16 * 999, 16, *range(16))

    def test_of_the_snapshot_that_is_asked_for(self):
        rows = ["class n 3 f", "snap", "new x n", "set x f x", "snap", "let x nil", "snap"]
        self.assertEqual(looked(rows, never(0), never(1), never(2)), [[0, 0], [0, 0], [3, 1, 0]])

    def test_no_such_snapshot(self):
        self.assertEqual(ask(never(0)), [[-2]])
        self.assertEqual(looked(["snap"], never(1), never(8), never(4294967295)), [[-2]] * 3)


if __name__ == "__main__":
    unittest.main()
