"""Many programs, made by a fixed rule: what is answered is held against the document's words, told again plainly."""

import itertools
import unittest

from tests.calling import ask, classes, cut, fewest, grows, keeps, most, never, new, snap, things, way, write

PROGRAMS = 400
FULL_HEAPS = 12
GROWING_PROGRAMS = 60


class Numbers:
    """A fixed row of numbers that has no pattern to speak of."""

    def __init__(self, seed):
        self.state = seed * 2654435761 % 2 ** 32 + 1

    def below(self, limit):
        self.state = (self.state * 6364136223846793005 + 1442695040888963407) % 2 ** 64
        return (self.state >> 33) % limit

    def one_of(self, choices):
        return choices[self.below(len(choices))]


def made_row(numbers, variables):
    """A row, or two that link a new thing, of variables that were told."""
    kind = numbers.below(40)
    target, source, field = numbers.one_of(variables), numbers.one_of(variables), numbers.one_of("fg")
    if kind < 12:
        return [f"new {target} {numbers.one_of('abc')}", f"set {source} {field} {target}"]
    if kind < 24:
        return [f"set {target} {field} {source}"]
    if kind < 26:
        return [f"set {target} {field} nil"]
    if kind < 28:
        return [f"get {target} {source} {field}"]
    if kind < 33:
        return [f"let {target} {source}"]
    return [f"let {target} nil"] if kind < 34 else ["snap"]


def made_program(seed):
    """The rows of a program without fault, which may stop anywhere."""
    numbers = Numbers(seed)
    rows = ["class a 3 f g", "class b 5 g f", "class c 7 " + numbers.one_of(["f g", "g f", "f"])]
    rows += ["new x a", "new y b", "let z y", "let v x"]
    depth = 0
    for turn in range(8 + numbers.below(16)):
        kind = numbers.below(12)
        if kind < 1 and depth < 2:
            rows.append(f"times {numbers.one_of([0, 1, 2, 2, 3, 9])}")
            depth += 1
        elif kind < 2 and depth > 0:
            rows.append("end")
            depth -= 1
        else:
            rows += made_row(numbers, "xyzv")
    # What only one variable comes to has keepers; so the others let go.
    return rows + ["end"] * depth + ["snap", "let y nil", "let z nil", "snap", "let v nil", "snap"]


def made_full_program(seed):
    """The rows of a program with sixteen things, each with two links, and six variables that hold things."""
    numbers = Numbers(seed)
    rows = ["class a 3 f g", "new h a", "set h f h", "set h g h"] + [f"let {name} h" for name in "pqrsx"]
    # A list by way of f, so that all are come to; what g and the variables hold is by chance.
    rows += ["times 3", f"let {numbers.one_of('pqrs')} h", "times 5", "new x a", "set x f h"]
    rows += [f"set x g {numbers.one_of('pqrs')}", f"let {numbers.one_of('pqrs')} h", "let h x"]
    for turn in range(1 + numbers.below(2)):
        rows.append(f"get {numbers.one_of('pqrs')} {numbers.one_of('pqrs')} {numbers.one_of('fg')}")
    rows += ["end", "end"]
    for turn in range(numbers.below(14)):
        target, source, field = numbers.one_of("pqrsx"), numbers.one_of("hpqrsx"), numbers.one_of("fg")
        rows.append(numbers.one_of([f"get {target} {source} {field}", f"set {target} {field} {source}"]))
    return rows + ["snap"]


def made_growing_program(seed):
    """The rows of a program in which two lists grow, or are let go, between snapshots."""
    numbers = Numbers(seed)
    longer = {name: [f"new x {name}", f"set x f {name}", f"let {name} x"] for name in "ab"}
    choices = [longer["a"], longer["b"], ["let a nil"], ["get b b f"], ["snap"], ["let x nil"]]
    rows = ["class a 3 f", "class b 5 f", "let a nil", "new b b"]
    for times in [f"times {2 + numbers.below(2)}", f"times {2 + numbers.below(3)}"]:
        rows += numbers.one_of(choices + choices[:2]) + [times]
        rows += numbers.one_of(choices[:2]) + numbers.one_of(choices[:2]) + numbers.one_of([[], [], ["let a nil"]])
    return rows + ["snap", "end"] + numbers.one_of([[]] + choices) + ["end", "snap"]


class Stop(Exception):
    pass


class PlainRun:
    """The program done by the document's words, with Python's own objects in the place of numbers."""

    def __init__(self, rows):
        self.rows = [row.split() for row in rows]
        self.classes = {words[1]: words for words in self.rows if words and words[0] == "class"}
        self.variables = {}
        for words in self.rows:
            if words and words[0] in ("new", "get", "let"):
                self.variables.setdefault(words[1], None)
        self.made, self.steps, self.snapshots, self.stopped = [], 0, [], 0
        try:
            self.block(0, len(self.rows))
        except Stop as stop:
            self.stopped = stop.args[0] + 1

    def end_of(self, row):
        depth = 0
        for number in range(row, len(self.rows)):
            depth += {"times": 1, "end": -1}.get((self.rows[number] or [""])[0], 0)
            if depth == 0:
                return number

    def block(self, row, behind):
        while row < behind:
            words = self.rows[row]
            if words and words[0] != "class":
                self.step(row)
                if words[0] == "times":
                    end = self.end_of(row)
                    for turn in range(int(words[1])):
                        self.block(row + 1, end)
                        self.step(end)
                    row = end
                else:
                    self.do(row, *words)
            row += 1

    def step(self, row):
        if self.steps == 300:
            raise Stop(row)
        self.steps += 1

    def field_holder(self, row, variable, field):
        thing = self.variables[variable]
        if thing is None or field not in thing["fields"]:
            raise Stop(row)
        return thing["fields"]

    def do(self, row, first, *words):
        held = {**self.variables, "nil": None}
        if first == "new":
            if len(self.made) == 16:
                raise Stop(row)
            told = self.classes[words[1]]
            number = len(self.made)
            self.made.append({"number": number, "class": told[1], "row": row, "fields": dict.fromkeys(told[3:])})
            self.variables[words[0]] = self.made[-1]
        elif first == "set":
            self.field_holder(row, words[0], words[1])[words[1]] = held[words[2]]
        elif first == "get":
            self.variables[words[0]] = self.field_holder(row, words[1], words[2])[words[2]]
        elif first == "let":
            self.variables[words[0]] = held[words[1]]
        else:
            if len(self.snapshots) == 8:
                raise Stop(row)
            self.snapshots.append(PlainSnapshot(self))


def and_one(thing):
    return 0 if thing is None else thing["number"] + 1


class PlainSnapshot:
    def __init__(self, run):
        names = list(run.classes)
        self.variables = [and_one(thing) for thing in run.variables.values()]
        self.fields = [[and_one(held) for held in thing["fields"].values()] for thing in run.made]
        self.told = [[names.index(thing["class"]), thing["row"]] for thing in run.made]
        self.sizes = [int(run.classes[thing["class"]][2]) for thing in run.made]
        self.class_sizes = [int(words[2]) for words in run.classes.values()]
        self.links = [(0, which, held - 1) for which, held in enumerate(self.variables) if held]
        for number, fields in enumerate(self.fields):
            self.links += [(number + 1, which, held - 1) for which, held in enumerate(fields) if held]
        self.come_to = self.reached(self.links)
        self.known_ways = None

    @property
    def ways(self):
        # Only made where they are asked for: a full heap has very many.
        if self.known_ways is None:
            self.known_ways = self.all_ways()
            assert self.come_to == sorted({links[-1][2] for links in self.known_ways})
        return self.known_ways

    def reached(self, links, begins=(0,)):
        """What is come to by these links from some beginnings (0: the variables), rising."""
        places = set(begins)
        found = set()
        while True:
            more = {held for begin, which, held in links if begin in places} - found
            if not more:
                return sorted(found)
            found |= more
            places |= {held + 1 for held in more}

    def all_ways(self):
        """Every way that comes to no thing twice."""
        ways = []
        behind = [[(0, which, held - 1)] for which, held in enumerate(self.variables) if held]
        while behind:
            links = behind.pop()
            ways.append(links)
            last = links[-1][2]
            for which, held in enumerate(self.fields[last]):
                if held and held - 1 not in [link[2] for link in links]:
                    behind.append(links + [(last + 1, which, held - 1)])
        return ways

    def size(self, numbers):
        return sum(self.sizes[number] for number in numbers)

    def kept(self, o):
        free = {links[-1][2] for links in self.ways if o not in [link[2] for link in links]}
        return [thing for thing in self.come_to if thing == o or thing not in free]

    def keeper(self, o):
        others = [p for p in self.come_to if p != o and o in self.kept(p)]
        ones = [p for p in others if all(p in self.kept(q) for q in others)]
        assert len(ones) == (1 if others else 0)
        return ones[0] + 1 if ones else 0

    def snap(self):
        return [len(self.fields), len(self.come_to), self.size(self.come_to)] + self.variables

    def things(self):
        answer = [len(self.fields)]
        for number, fields in enumerate(self.fields):
            answer += self.told[number] + [int(number in self.come_to), len(fields)] + fields
        return answer

    def way(self, o):
        if o not in self.come_to:
            return [-6]
        links = min((links for links in self.ways if links[-1][2] == o), key=lambda links: (len(links), links))
        return [len(links)] + [number for link in links for number in link]

    def keeps(self, o):
        if o not in self.come_to:
            return [-6]
        return [self.keeper(o), self.size(self.kept(o)), len(self.kept(o))] + self.kept(o)

    def most(self, n):
        pairs = sorted((-self.size(self.kept(o)), o) for o in self.come_to)[:n]
        return [len(pairs)] + [number for size, o in pairs for number in (o, -size)]


    def cut(self, begins, which):
        for link in self.links:
            if link[:2] == (begins, which) and (begins == 0 or begins - 1 in self.come_to):
                gone = [o for o in self.come_to if all(link in links for links in self.ways if links[-1][2] == o)]
                return [self.size(gone), len(gone)] + gone
        return [-6]

    def fewest(self):
        """What fewest answers of each thing: every row of one to three links is tried, in order."""
        answers = {o: [-7] if o in self.come_to else [-6] for o in range(len(self.fields))}
        for count in (1, 2, 3):
            for row in itertools.combinations(self.links, count):
                left = self.reached([link for link in self.links if link not in row])
                for o in self.come_to:
                    if o not in left and answers[o] == [-7]:
                        answers[o] = [count] + [number for link in row for number in link]
        return [answers[o] for o in range(len(self.fields))]

    def never(self):
        """What lies on a ring that isn't come to, or is led to from there, and isn't come to."""
        rings = [o for o in range(len(self.fields)) if o in self.reached(self.links, [o + 1])]
        held = self.reached(self.links, [o + 1 for o in rings if o not in self.come_to])
        left = [o for o in held if o not in self.come_to]
        return [self.size(left), len(left)] + left

    def classes(self):
        of_each = [[o for o in self.come_to if self.told[o][0] == kind] for kind in range(len(self.class_sizes))]
        answer = [len(self.class_sizes)]
        for size, numbers in zip(self.class_sizes, of_each):
            answer += [len(numbers), size * len(numbers)]
        return answer

    def come_to_of_row(self, row):
        return sum(self.told[o][1] == row for o in self.come_to)


def plain_new(snapshots, s, t):
    ahead, behind = set(snapshots[s].come_to), set(snapshots[t].come_to)
    if t < s:
        return [-1]
    return [len(behind - ahead), *sorted(behind - ahead), len(ahead - behind), *sorted(ahead - behind)]


def plain_grows(snapshots, s, t):
    if t - s < 2:
        return [-1]
    answer = [0]
    for row in range(600):
        counts = [snapshot.come_to_of_row(row) for snapshot in snapshots[s:t + 1]]
        if all(counts[place] > counts[place - 1] for place in range(1, len(counts))):
            answer[0] += 1
            answer += [row, counts[-1]]
    return answer


class Whole(unittest.TestCase):
    def hold_calls(self, text, calls, expected):
        """Holds what calls answer against what's expected, in lists of 40 calls with 2 of fewest at the most."""
        most_calls = 2 if calls and calls[0][0] == 7 else 39
        for place in range(0, len(calls), most_calls):
            behind = place + most_calls
            self.assertEqual(ask(write(text), *calls[place:behind])[1:], expected[place:behind], text)

    def hold_pairs(self, text, snapshots):
        pairs = [(s, t) for s in range(len(snapshots)) for t in range(len(snapshots))]
        self.hold_calls(text, [new(s, t) for s, t in pairs], [plain_new(snapshots, s, t) for s, t in pairs])
        self.hold_calls(text, [grows(s, t) for s, t in pairs], [plain_grows(snapshots, s, t) for s, t in pairs])

    def hold_cuts(self, text, s, plain):
        places = [(begins, which) for begins in range(len(plain.fields) + 2) for which in range(3 if begins else 7)]
        self.hold_calls(text, [cut(s, *place) for place in places], [plain.cut(*place) for place in places])
        self.hold_calls(text, [never(s), classes(s)], [plain.never(), plain.classes()])

    def hold_fewest(self, text, s, plain):
        answers = plain.fewest()
        self.hold_calls(text, [fewest(s, o) for o in range(len(plain.fields))], answers)
        return [answer[0] for answer in answers]

    def hold_snapshot(self, text, s, plain):
        count = len(plain.fields)
        self.assertEqual(
            ask(write(text), snap(s), things(s), *[way(s, o) for o in range(count)], *[most(s, n) for n in (1, 99)])[1:],
            [plain.snap(), plain.things(), *[plain.way(o) for o in range(count)], plain.most(1), plain.most(99)], text)
        self.assertEqual(
            ask(write(text), *[keeps(s, o) for o in range(count)])[1:],
            [plain.keeps(o) for o in range(count)], text)

    def test_many_programs(self):
        stops = 0
        looked_at = 0
        told = []
        for seed in range(PROGRAMS):
            rows = made_program(seed)
            text = "\n".join(rows)
            self.assertLessEqual(len(text), 600)
            plain = PlainRun(rows)
            answer = [len(plain.made), plain.steps, len(plain.snapshots), plain.stopped]
            self.assertEqual(ask(write(text)), [answer], text)
            stops += plain.stopped > 0
            looked_at += len(plain.snapshots)
            for s, snapshot in enumerate(plain.snapshots):
                self.hold_snapshot(text, s, snapshot)
                self.hold_cuts(text, s, snapshot)
            if seed % 4 == 0:
                self.hold_pairs(text, plain.snapshots)
                told += self.hold_fewest(text, len(plain.snapshots) - 1, plain.snapshots[-1]) if plain.snapshots else []
        # So that a change of the rule that makes them doesn't leave nothing to look at.
        self.assertGreater(stops, 50)
        self.assertGreater(PROGRAMS - stops, 50)
        self.assertGreater(looked_at, 200)
        for first in (-6, 1, 2, 3):
            self.assertIn(first, told)

    def test_full_heaps(self):
        told = []
        for seed in range(FULL_HEAPS):
            rows = made_full_program(seed)
            text = "\n".join(rows)
            plain = PlainRun(rows).snapshots[0]
            self.assertEqual((len(plain.fields), len(plain.links)), (16, 38), text)
            told += self.hold_fewest(text, 0, plain)
        for first in (-7, 1, 2, 3):
            self.assertGreater(told.count(first), 2)

    def test_growing_programs(self):
        told = []
        for seed in range(GROWING_PROGRAMS):
            rows = made_growing_program(seed)
            snapshots = PlainRun(rows).snapshots
            self.hold_pairs("\n".join(rows), snapshots)
            told += [plain_grows(snapshots, 0, t)[0] for t in range(len(snapshots))]
        for first in (-1, 0, 1, 2):
            self.assertGreater(told.count(first), 2)


if __name__ == "__main__":
    unittest.main()
