"""The interface: one list of calls in, one list of numbers out, and nothing kept or changed."""

import unittest

from keptalive.house import answers
from tests.calling import ask, classes, cut, fewest, grows, keeps, most, never, new, snap, things, way, write

TEXT = "class a 5 f\nnew x a\nset x f x\nsnap"

# A list grows by a thing of row 3 ahead of each of three snapshots; at the end a ring is let go.
LIST = "class a 5 f\nlet h nil\ntimes 3\nnew x a\nset x f h\nlet h x\nsnap\nend\nlet h nil\nset x f x\nlet x nil\nsnap"

# Each of the twelve calls, once taken and once refused.
TWELVE = [
    write(LIST), snap(1), things(0), way(2, 0), keeps(2, 1), most(2, 2), cut(2, 2, 0), fewest(2, 0), never(3),
    new(1, 3), grows(0, 2), classes(2),
    write("what"), snap(4), things(4), way(2, 3), keeps(3, 0), most(4, 0), cut(2, 1, 0), fewest(3, 0), never(4),
    new(1, 0), grows(0, 1), classes(4),
]


def strung(calls):
    return [number for call in calls for number in call]


class Unchanging(list):
    """A list that can only be read."""

    def refuse(self, *given, **named):
        raise AssertionError("what is handed in is changed")

    append = extend = insert = pop = remove = clear = sort = reverse = refuse
    __setitem__ = __delitem__ = __iadd__ = __imul__ = refuse


class Interface(unittest.TestCase):
    def test_each_answer_behind_its_count(self):
        calls = write(TEXT) + snap(0) + things(0) + way(0, 0) + keeps(0, 0) + most(0, 1) + snap(1) + write("what")
        self.assertEqual(answers(calls), [
            4, 1, 3, 1, 0,
            4, 1, 1, 5, 1,
            6, 1, 0, 1, 1, 1, 1,
            4, 1, 0, 0, 0,
            4, 0, 5, 1, 0,
            3, 1, 0, 5,
            1, -2,
            1, -1001,
        ])

    def test_each_of_the_twelve(self):
        self.assertEqual(ask(*TWELVE), [
            [3, 21, 4, 0], [2, 2, 10, 2, 2], [1, 0, 3, 1, 1, 0], [3, 0, 0, 2, 3, 0, 1, 2, 0, 0], [3, 10, 2, 0, 1],
            [2, 2, 15, 1, 10], [5, 1, 0], [1, 2, 0, 0], [5, 1, 2], [0, 2, 0, 1], [1, 3, 3], [1, 3, 15],
            [-1001], [-2], [-2], [-3], [-6], [-2], [-6], [-6], [-2], [-1], [-1], [-2],
        ])

    def test_in_any_order(self):
        behind = ask(*TWELVE)[1:]
        self.assertEqual(ask(TWELVE[0], *TWELVE[:0:-1])[1:], behind[::-1])
        for place in range(1, len(TWELVE)):
            self.assertEqual(ask(TWELVE[0], TWELVE[place])[1:], [behind[place - 1]])

    def test_ahead_of_a_program(self):
        calls = [call for call in TWELVE if call[0] != 0]
        self.assertEqual(ask(*calls), [[-2]] * len(calls))

    def test_one_call(self):
        self.assertEqual(answers([0, 0]), [4, 0, 0, 0, 0])
        self.assertEqual(answers([1, 0]), [1, -2])

    def test_forty_calls(self):
        self.assertEqual(ask(write(TEXT), *[most(0, 1)] * 38, write(TEXT)), [[1, 3, 1, 0]] + [[1, 0, 5]] * 38 + [[1, 3, 1, 0]])

    def test_longest_list(self):
        text = [32] * 640
        self.assertEqual(ask(*[write(text)] * 40), [[-1]] * 40)
        text = list("snap".encode()) + [10] * 596
        self.assertEqual(ask(*[write(text)] * 40), [[0, 1, 1, 0]] * 40)

    def test_text_that_looks_like_calls(self):
        self.assertEqual(ask(write([1, 0, 2, 0]), snap(0)), [[-1001], [-2]])

    def test_twice_the_same(self):
        calls = strung(TWELVE)
        kept = list(calls)
        first = answers(calls)
        first_kept = list(first)
        self.assertEqual(calls, kept)
        self.assertEqual(answers(calls), first_kept)
        self.assertEqual(calls, kept)
        first.clear()
        self.assertEqual(answers(calls), first_kept)

    def test_nothing_is_kept_from_one_time_to_the_next(self):
        self.assertEqual(ask(write(TEXT), snap(0)), [[1, 3, 1, 0], [1, 1, 5, 1]])
        self.assertEqual(ask(snap(0)), [[-2]])
        self.assertEqual(ask(classes(0), never(0), write("snap"), classes(0)), [[-2], [-2], [0, 1, 1, 0], [0]])

    def test_what_is_handed_in_is_never_changed(self):
        calls = strung(TWELVE) + snap(7) + write([256])
        self.assertEqual(answers(Unchanging(calls)), answers(calls))


class SeveralPrograms(unittest.TestCase):
    def test_the_snapshots_of_the_later_one_and_no_others(self):
        longer = "class b 9\nsnap\nnew y b\nnew z b\nsnap\nsnap"
        self.assertEqual(ask(write(TEXT), snap(0), write(longer), snap(0), snap(1), snap(2), snap(3)), [
            [1, 3, 1, 0], [1, 1, 5, 1], [2, 5, 3, 0], [0, 0, 0, 0, 0], [2, 2, 18, 1, 2], [2, 2, 18, 1, 2], [-2],
        ])
        self.assertEqual(ask(write(longer), snap(2), write(TEXT), snap(0), snap(1), way(0, 1)), [
            [2, 5, 3, 0], [2, 2, 18, 1, 2], [1, 3, 1, 0], [1, 1, 5, 1], [-2], [-3],
        ])

    def test_a_program_without_snapshots_leaves_none(self):
        self.assertEqual(ask(write(TEXT), write(""), snap(0)), [[1, 3, 1, 0], [0, 0, 0, 0], [-2]])

    def test_a_program_that_stops_is_written(self):
        self.assertEqual(ask(write(TEXT), write("let x nil\nsnap\nset x f x\nsnap"), snap(0), snap(1)), [
            [1, 3, 1, 0], [0, 3, 1, 3], [0, 0, 0, 0], [-2],
        ])

    def test_the_classes_and_rows_of_the_later_one(self):
        asked = [classes(0), never(0), cut(0, 0, 0), fewest(0, 0), new(0, 2), grows(0, 2)]
        later = "class c 1\nclass b 9 g\nlet i nil\nsnap\n\ntimes 2\nnew y b\nset y g i\nlet i y\nsnap\nend"
        first, second = ask(write(LIST), *asked)[1:], ask(write(later), *asked)[1:]
        self.assertEqual(first, [[1, 1, 5], [0, 0], [0, 0], [2, 0, 0, 0, 0, 1, 0], [2, 1, 2, 0], [1, 3, 3]])
        self.assertEqual(second, [[2, 0, 0, 0, 0], [0, 0], [-6], [-3], [2, 0, 1, 0], [1, 6, 2]])
        self.assertEqual(ask(write(LIST), write(later), *asked)[2:], second)
        self.assertEqual(ask(write(later), *asked[:3], write(LIST), *asked)[5:], first)

    def test_names_of_an_earlier_program_are_gone(self):
        self.assertEqual(ask(write(TEXT), write("let y x"), write("new x a")), [[1, 3, 1, 0], [-1003], [-1003]])
        self.assertEqual(ask(write(TEXT), write("class a 5\nsnap"), snap(0)), [[1, 3, 1, 0], [0, 1, 1, 0], [0, 0, 0]])


if __name__ == "__main__":
    unittest.main()
