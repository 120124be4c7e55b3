"""Many programs, made by a fixed rule: what is answered is held against the document's words, told again plainly."""

import unittest

from tests.calling import ask, keeps, most, snap, things, way, write

PROGRAMS = 400


class Numbers:
    """A fixed row of numbers that has no pattern to speak of."""

    def __init__(self, seed):
        self.state = seed * 2654435761 % 2 ** 32 + 1

    def below(self, limit):
        self.state = (self.state * 6364136223846793005 + 1442695040888963407) % 2 ** 64
        return (self.state >> 33) % limit

    def one_of(self, choices):
        return choices[self.below(len(choices))]


def made_row(numbers, variables):
    """A row, or two that link a new thing, of variables that were told."""
    kind = numbers.below(40)
    target, source, field = numbers.one_of(variables), numbers.one_of(variables), numbers.one_of("fg")
    if kind < 12:
        return [f"new {target} {numbers.one_of('abc')}", f"set {source} {field} {target}"]
    if kind < 24:
        return [f"set {target} {field} {source}"]
    if kind < 26:
        return [f"set {target} {field} nil"]
    if kind < 28:
        return [f"get {target} {source} {field}"]
    if kind < 33:
        return [f"let {target} {source}"]
    return [f"let {target} nil"] if kind < 34 else ["snap"]


def made_program(seed):
    """The rows of a program without fault, which may stop anywhere."""
    numbers = Numbers(seed)
    rows = ["class a 3 f g", "class b 5 g f", "class c 7 " + numbers.one_of(["f g", "g f", "f"])]
    rows += ["new x a", "new y b", "let z y", "let v x"]
    depth = 0
    for turn in range(8 + numbers.below(16)):
        kind = numbers.below(12)
        if kind < 1 and depth < 2:
            rows.append(f"times {numbers.one_of([0, 1, 2, 2, 3, 9])}")
            depth += 1
        elif kind < 2 and depth > 0:
            rows.append("end")
            depth -= 1
        else:
            rows += made_row(numbers, "xyzv")
    # What only one variable comes to has keepers; so the others let go.
    return rows + ["end"] * depth + ["snap", "let y nil", "let z nil", "snap", "let v nil", "snap"]


class Stop(Exception):
    pass


class PlainRun:
    """The program done by the document's words, with Python's own objects in the place of numbers."""

    def __init__(self, rows):
        self.rows = [row.split() for row in rows]
        self.classes = {words[1]: words for words in self.rows if words and words[0] == "class"}
        self.variables = {}
        for words in self.rows:
            if words and words[0] in ("new", "get", "let"):
                self.variables.setdefault(words[1], None)
        self.made, self.steps, self.snapshots, self.stopped = [], 0, [], 0
        try:
            self.block(0, len(self.rows))
        except Stop as stop:
            self.stopped = stop.args[0] + 1

    def end_of(self, row):
        depth = 0
        for number in range(row, len(self.rows)):
            depth += {"times": 1, "end": -1}.get((self.rows[number] or [""])[0], 0)
            if depth == 0:
                return number

    def block(self, row, behind):
        while row < behind:
            words = self.rows[row]
            if words and words[0] != "class":
                self.step(row)
                if words[0] == "times":
                    end = self.end_of(row)
                    for turn in range(int(words[1])):
                        self.block(row + 1, end)
                        self.step(end)
                    row = end
                else:
                    self.do(row, *words)
            row += 1

    def step(self, row):
        if self.steps == 300:
            raise Stop(row)
        self.steps += 1

    def field_holder(self, row, variable, field):
        thing = self.variables[variable]
        if thing is None or field not in thing["fields"]:
            raise Stop(row)
        return thing["fields"]

    def do(self, row, first, *words):
        held = {**self.variables, "nil": None}
        if first == "new":
            if len(self.made) == 16:
                raise Stop(row)
            told = self.classes[words[1]]
            number = len(self.made)
            self.made.append({"number": number, "class": told[1], "row": row, "fields": dict.fromkeys(told[3:])})
            self.variables[words[0]] = self.made[-1]
        elif first == "set":
            self.field_holder(row, words[0], words[1])[words[1]] = held[words[2]]
        elif first == "get":
            self.variables[words[0]] = self.field_holder(row, words[1], words[2])[words[2]]
        elif first == "let":
            self.variables[words[0]] = held[words[1]]
        else:
            if len(self.snapshots) == 8:
                raise Stop(row)
            self.snapshots.append(PlainSnapshot(self))


def and_one(thing):
    return 0 if thing is None else thing["number"] + 1


class PlainSnapshot:
    def __init__(self, run):
        names = list(run.classes)
        self.variables = [and_one(thing) for thing in run.variables.values()]
        self.fields = [[and_one(held) for held in thing["fields"].values()] for thing in run.made]
        self.told = [[names.index(thing["class"]), thing["row"]] for thing in run.made]
        self.sizes = [int(run.classes[thing["class"]][2]) for thing in run.made]
        self.ways = self.all_ways()
        self.come_to = sorted({links[-1][2] for links in self.ways})

    def all_ways(self):
        """Every way that comes to no thing twice."""
        ways = []
        behind = [[(0, which, held - 1)] for which, held in enumerate(self.variables) if held]
        while behind:
            links = behind.pop()
            ways.append(links)
            last = links[-1][2]
            for which, held in enumerate(self.fields[last]):
                if held and held - 1 not in [link[2] for link in links]:
                    behind.append(links + [(last + 1, which, held - 1)])
        return ways

    def size(self, numbers):
        return sum(self.sizes[number] for number in numbers)

    def kept(self, o):
        free = {links[-1][2] for links in self.ways if o not in [link[2] for link in links]}
        return [thing for thing in self.come_to if thing == o or thing not in free]

    def keeper(self, o):
        others = [p for p in self.come_to if p != o and o in self.kept(p)]
        ones = [p for p in others if all(p in self.kept(q) for q in others)]
        assert len(ones) == (1 if others else 0)
        return ones[0] + 1 if ones else 0

    def snap(self):
        return [len(self.fields), len(self.come_to), self.size(self.come_to)] + self.variables

    def things(self):
        answer = [len(self.fields)]
        for number, fields in enumerate(self.fields):
            answer += self.told[number] + [int(number in self.come_to), len(fields)] + fields
        return answer

    def way(self, o):
        if o not in self.come_to:
            return [-6]
        links = min((links for links in self.ways if links[-1][2] == o), key=lambda links: (len(links), links))
        return [len(links)] + [number for link in links for number in link]

    def keeps(self, o):
        if o not in self.come_to:
            return [-6]
        return [self.keeper(o), self.size(self.kept(o)), len(self.kept(o))] + self.kept(o)

    def most(self, n):
        pairs = sorted((-self.size(self.kept(o)), o) for o in self.come_to)[:n]
        return [len(pairs)] + [number for size, o in pairs for number in (o, -size)]


class Whole(unittest.TestCase):
    def hold_snapshot(self, text, s, plain):
        count = len(plain.fields)
        self.assertEqual(
            ask(write(text), snap(s), things(s), *[way(s, o) for o in range(count)], *[most(s, n) for n in (1, 99)])[1:],
            [plain.snap(), plain.things(), *[plain.way(o) for o in range(count)], plain.most(1), plain.most(99)], text)
        self.assertEqual(
            ask(write(text), *[keeps(s, o) for o in range(count)])[1:],
            [plain.keeps(o) for o in range(count)], text)

    def test_many_programs(self):
        stops = 0
        looked_at = 0
        for seed in range(PROGRAMS):
            rows = made_program(seed)
            text = "\n".join(rows)
            self.assertLessEqual(len(text), 600)
            plain = PlainRun(rows)
            answer = [len(plain.made), plain.steps, len(plain.snapshots), plain.stopped]
            self.assertEqual(ask(write(text)), [answer], text)
            stops += plain.stopped > 0
            looked_at += len(plain.snapshots)
            for s, snapshot in enumerate(plain.snapshots):
                self.hold_snapshot(text, s, snapshot)
        # So that a change of the rule that makes them doesn't leave nothing to look at.
        self.assertGreater(stops, 50)
        self.assertGreater(PROGRAMS - stops, 50)
        self.assertGreater(looked_at, 200)


if __name__ == "__main__":
    unittest.main()
