"""The interface: one list of calls in, one list of numbers out, and nothing kept or changed."""

import unittest

from keptalive.house import answers
from tests.calling import ask, keeps, most, snap, things, way, write

TEXT = "class a 5 f\nnew x a\nset x f x\nsnap"


class Unchanging(list):
    """A list that can only be read."""

    def refuse(self, *given, **named):
        raise AssertionError("what is handed in is changed")

    append = extend = insert = pop = remove = clear = sort = reverse = refuse
    __setitem__ = __delitem__ = __iadd__ = __imul__ = refuse


class Interface(unittest.TestCase):
    def test_each_answer_behind_its_count(self):
        calls = write(TEXT) + snap(0) + things(0) + way(0, 0) + keeps(0, 0) + most(0, 1) + snap(1) + write("what")
        self.assertEqual(answers(calls), [
            4, 1, 3, 1, 0,
            4, 1, 1, 5, 1,
            6, 1, 0, 1, 1, 1, 1,
            4, 1, 0, 0, 0,
            4, 0, 5, 1, 0,
            3, 1, 0, 5,
            1, -2,
            1, -1001,
        ])

    def test_one_call(self):
        self.assertEqual(answers([0, 0]), [4, 0, 0, 0, 0])
        self.assertEqual(answers([1, 0]), [1, -2])

    def test_forty_calls(self):
        self.assertEqual(ask(write(TEXT), *[most(0, 1)] * 38, write(TEXT)), [[1, 3, 1, 0]] + [[1, 0, 5]] * 38 + [[1, 3, 1, 0]])

    def test_longest_list(self):
        text = [32] * 640
        self.assertEqual(ask(*[write(text)] * 40), [[-1]] * 40)
        text = list("snap".encode()) + [10] * 596
        self.assertEqual(ask(*[write(text)] * 40), [[0, 1, 1, 0]] * 40)

    def test_text_that_looks_like_calls(self):
        self.assertEqual(ask(write([1, 0, 2, 0]), snap(0)), [[-1001], [-2]])

    def test_twice_the_same(self):
        calls = write(TEXT) + snap(0) + things(0) + way(0, 0) + keeps(0, 0) + most(0, 1)
        kept = list(calls)
        first = answers(calls)
        first_kept = list(first)
        self.assertEqual(calls, kept)
        self.assertEqual(answers(calls), first_kept)
        self.assertEqual(calls, kept)
        first.clear()
        self.assertEqual(answers(calls), first_kept)

    def test_nothing_is_kept_from_one_time_to_the_next(self):
        self.assertEqual(ask(write(TEXT), snap(0)), [[1, 3, 1, 0], [1, 1, 5, 1]])
        self.assertEqual(ask(snap(0)), [[-2]])

    def test_what_is_handed_in_is_never_changed(self):
        calls = write(TEXT) + snap(0) + things(0) + way(0, 0) + keeps(0, 0) + most(0, 1) + snap(7) + write([256])
        self.assertEqual(answers(Unchanging(calls)), answers(calls))


class SeveralPrograms(unittest.TestCase):
    def test_the_snapshots_of_the_later_one_and_no_others(self):
        longer = "class b 9\nsnap\nnew y b\nnew z b\nsnap\nsnap"
        self.assertEqual(ask(write(TEXT), snap(0), write(longer), snap(0), snap(1), snap(2), snap(3)), [
            [1, 3, 1, 0], [1, 1, 5, 1], [2, 5, 3, 0], [0, 0, 0, 0, 0], [2, 2, 18, 1, 2], [2, 2, 18, 1, 2], [-2],
        ])
        self.assertEqual(ask(write(longer), snap(2), write(TEXT), snap(0), snap(1), way(0, 1)), [
            [2, 5, 3, 0], [2, 2, 18, 1, 2], [1, 3, 1, 0], [1, 1, 5, 1], [-2], [-3],
        ])

    def test_a_program_without_snapshots_leaves_none(self):
        self.assertEqual(ask(write(TEXT), write(""), snap(0)), [[1, 3, 1, 0], [0, 0, 0, 0], [-2]])

    def test_a_program_that_stops_is_written(self):
        self.assertEqual(ask(write(TEXT), write("let x nil\nsnap\nset x f x\nsnap"), snap(0), snap(1)), [
            [1, 3, 1, 0], [0, 3, 1, 3], [0, 0, 0, 0], [-2],
        ])

    def test_names_of_an_earlier_program_are_gone(self):
        self.assertEqual(ask(write(TEXT), write("let y x"), write("new x a")), [[1, 3, 1, 0], [-1003], [-1003]])
        self.assertEqual(ask(write(TEXT), write("class a 5\nsnap"), snap(0)), [[1, 3, 1, 0], [0, 1, 1, 0], [0, 0, 0]])


if __name__ == "__main__":
    unittest.main()
