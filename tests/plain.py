"""Another way to the same, for the tests to compare with: plain, slow, and written from the document alone."""

import copy

# d lies within c, c and b within a; e stands beside them.
PLOTS = [("a", None), ("b", "a"), ("c", "a"), ("d", "c"), ("e", None)]


class Plain:
    """Another way to the same: each opening lists its values, and giving back marks them."""

    def __init__(self, plots):
        self.outer = dict(plots)
        self.alive, self.holds = [], {}
        self.told, self.opened, self.given = [], 0, []

    def find(self, plot):
        return next((one for one in self.alive if one["plot"] == plot), None)

    def state(self, name):
        if name not in self.holds:
            return "nothing"
        return "gone" if self.holds[name]["gone"] else ""

    def within(self, inner, plot):
        return inner == plot or (self.outer[inner] is not None and self.within(self.outer[inner], plot))

    def words(self, row):
        word = row[0]
        if word == "open":
            yield "open already" if self.find(row[1]) else ""
            yield "not open" if self.outer[row[1]] and not self.find(self.outer[row[1]]) else ""
        if word in ("copy", "same"):
            state = self.state(row[2])
            yield "" if word == "same" and state == "gone" else state
        if word in ("add", "tell"):
            for name in row[1:]:
                yield self.state(name)
        if word in ("lay", "copy", "give"):
            plot = {"lay": 2, "copy": 3, "give": 1}[word]
            yield "" if self.find(row[plot]) else "not open"
        if word == "end":
            yield "left" if self.alive else ""

    def do(self, row):
        wrong = next((word for word in self.words(row) if word), "")
        if wrong == "":
            getattr(self, "do_" + row[0])(*row[1:])
        return wrong

    def do_open(self, plot):
        self.alive.append({"plot": plot, "number": self.opened, "on": []})
        self.opened += 1

    def do_lay(self, name, plot, number):
        self.holds[name] = {"worth": number, "gone": False}
        self.find(plot)["on"].append(self.holds[name])

    def do_copy(self, name, other, plot):
        self.do_lay(name, plot, self.holds[other]["worth"])

    def do_same(self, name, other):
        self.holds[name] = self.holds[other]

    def do_add(self, name, other):
        self.holds[name]["worth"] += self.holds[other]["worth"]

    def do_tell(self, name):
        self.told.append(self.holds[name]["worth"])

    def do_give(self, plot):
        lost = [one for one in self.alive if self.within(one["plot"], plot)]
        for one in sorted(lost, key=lambda one: -one["number"]):
            self.given.append(one["number"])
            self.alive.remove(one)
            for value in one["on"]:
                value["gone"] = True

    def do_end(self):
        pass


class PlainRun:
    """A run that counts, beside what a run tells, the most values that lie on open plots at one time."""

    def __init__(self, plots, rows, inputs, steps):
        self.plain, self.coming, self.written = Plain(plots), iter(inputs), rows + [("end",)]
        self.place = self.steps = self.most = 0
        self.end = ""
        while self.end == "" and self.steps < steps:
            self.steps += 1
            self.begin(self.written[self.place])
        self.end = self.end or "going"

    def begin(self, row):
        if row[0] == "go":
            self.place = row[1]
        elif row[0] == "fork":
            self.place = self.place + 1 if next(self.coming, 0) == 0 else row[1]
        else:
            self.end = self.plain.do(row) or ("done" if row[0] == "end" else "")
            self.place += 1 if self.end == "" else 0
            self.most = max(self.most, sum(len(one["on"]) for one in self.plain.alive))

    def seen(self):
        return self.end, self.place, self.steps, self.plain.told, self.plain.opened, self.plain.given


def facts_of(plain, plots, names):
    """What stands in a Plain, told by facts."""
    facts = [("plot", plot, plain.find(plot) is not None) for plot, outer in plots]
    return facts + [("name", name, where(plain, name)) for name in names]


def where(plain, name):
    if plain.state(name) == "nothing":
        return None
    return next((one["plot"] for one in plain.alive if any(plain.holds[name] is value for value in one["on"])), "")


def fewest_steps(plots, rows, names):
    """The fewest steps to a row that goes wrong, by trying all that may stand at each place, or None."""
    written, level, met, steps = rows + [("end",)], [(0, Plain(plots))], set(), 0
    while level:
        later, steps = [], steps + 1
        for place, plain in level:
            row = written[place]
            followers = [place + 1]
            if row[0] in ("fork", "go"):
                followers = [row[1]] + ([place + 1] if row[0] == "fork" else [])
            elif plain.do(row) != "":
                return steps
            elif row[0] == "end":
                continue
            for follower in followers:
                stand = (follower, *facts_of(plain, plots, names))
                if stand not in met:
                    met.add(stand)
                    later.append((follower, copy.deepcopy(plain)))
        level = later
    return None


def some_row(chance, plots=PLOTS, names="abx"):
    def plot():
        return chance.choice(plots)[0]

    def name():
        return chance.choice(names)
    word = chance.choice(("open",) * 4 + ("lay", "copy", "same", "add", "tell", "give", "end"))
    parts = {"open": (plot(),), "lay": (name(), plot(), chance.randint(-9, 9)), "copy": (name(), name(), plot()),
             "same": (name(), name()), "add": (name(), name()), "tell": (name(),), "give": (plot(),), "end": ()}
    return (word,) + parts[word]


def some_program(chance, plots, names, many):
    """Any rows with forks and gos between them; most go wrong on some way."""
    rows = [some_row(chance, plots, names) for _ in range(chance.randint(1, many))]
    return with_forks(chance, rows)


def some_good_program(chance, plots, names, many):
    """Rows that go well one behind the other, then with forks and gos between them; some go wrong on no way."""
    plain, rows = Plain(plots), []
    while len(rows) < many:
        row = some_row(chance, plots, names)
        if row[0] != "end" and copy.deepcopy(plain).do(row) == "":
            plain.do(row)
            rows.append(row)
    rows += [("give", one["plot"]) for one in reversed(plain.alive)]
    return with_forks(chance, rows)


def with_forks(chance, rows):
    jumps = [chance.choice(("fork", "fork", "go")) for _ in range(chance.randint(0, 4))]
    last = len(rows) + len(jumps)
    for word in jumps:
        rows.insert(chance.randint(0, len(rows)), (word, chance.randint(0, last)))
    return rows
