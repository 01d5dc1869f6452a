"""Plots, the values on them and the names that hold the values."""

from plotfree.rows import outward


class Value:
    """A number laid on a plot; names that hold the same Value share what is added to it."""

    def __init__(self, plot, opening, number):
        self.plot = plot
        # A plot that is opened again has another opening, so the value stays gone.
        self.opening = opening
        self.number = number


class Store:
    """All plots shut at first, and names that hold nothing."""

    def __init__(self, plots):
        self.told = []
        self.opened = 0
        self.given = []
        self._chains = {plot: outward(plots, plot) for plot, outer in plots}
        # The number of each open plot, in the order in which they were opened.
        self._openings = {}
        self._held = {}

    def do(self, row):
        """Does a row that is no fork or go; the word by which it goes wrong, or the empty text."""
        wrong = self._wrong(row)
        if wrong == "":
            self._change(row)
        return wrong

    def _wrong(self, row):
        word = row[0]
        if word == "open":
            return self._wrong_open(row[1])
        if word == "lay":
            return self._wrong_plot(row[2])
        if word == "copy":
            return self._wrong_name(row[2]) or self._wrong_plot(row[3])
        if word == "same":
            return self._wrong_holder(row[2])
        if word == "add":
            return self._wrong_name(row[1]) or self._wrong_name(row[2])
        if word == "tell":
            return self._wrong_name(row[1])
        if word == "give":
            return self._wrong_plot(row[1])
        if word == "end" and len(self._openings) > 0:
            return "left"
        return ""

    def _wrong_open(self, plot):
        if plot in self._openings:
            return "open already"
        chain = self._chains[plot]
        if len(chain) > 1 and chain[1] not in self._openings:
            return "not open"
        return ""

    def _wrong_plot(self, plot):
        if plot in self._openings:
            return ""
        return "not open"

    def _wrong_holder(self, name):
        if name in self._held:
            return ""
        return "nothing"

    def _wrong_name(self, name):
        if name not in self._held:
            return "nothing"
        value = self._held[name]
        if self._openings.get(value.plot) == value.opening:
            return ""
        return "gone"

    def _change(self, row):
        word = row[0]
        if word == "open":
            self._openings[row[1]] = self.opened
            self.opened += 1
        elif word == "lay":
            self._put(row[1], row[2], row[3])
        elif word == "copy":
            self._put(row[1], row[3], self._held[row[2]].number)
        elif word == "same":
            self._held[row[1]] = self._held[row[2]]
        elif word == "add":
            self._grow(row[1], row[2])
        elif word == "tell":
            self.told.append(self._held[row[1]].number)
        elif word == "give":
            self._give(row[1])

    def _put(self, name, plot, number):
        self._held[name] = Value(plot, self._openings[plot], number)

    def _grow(self, name, other):
        value = self._held[name]
        value.number += self._held[other].number

    def _give(self, plot):
        within = [inner for inner in self._openings if plot in self._chains[inner]]
        for inner in reversed(within):
            self.given.append(self._openings[inner])
            del self._openings[inner]
