"""Bare runs: nobody watches, and the cells of what is given back are used again."""

from plotfree.machine import Course
from plotfree.rows import need, need_run, outward


class Cells:
    """A row of cells, each for one value at a time, and the names' places in it."""

    def __init__(self, plots):
        self.told = []
        self.cells = []
        self._free = []
        self._within = {plot: within(plots, plot) for plot, outer in plots}
        # The places of the cells whose values lie on each plot.
        self._lying = {plot: [] for plot, outer in plots}
        self._held = {}

    def do(self, row):
        """Does a row that goes wrong on no way."""
        word = row[0]
        if word == "lay":
            self._put(row[1], row[2], row[3])
        elif word == "copy":
            self._put(row[1], row[3], self._number(row[2]))
        elif word == "same":
            self._held[row[1]] = self._held[row[2]]
        elif word == "add":
            self.cells[self._held[row[1]]] += self._number(row[2])
        elif word == "tell":
            self.told.append(self._number(row[1]))
        elif word == "give":
            self._give(row[1])

    def _number(self, name):
        return self.cells[self._held[name]]

    def _put(self, name, plot, number):
        if len(self._free) > 0:
            place = self._free.pop()
            self.cells[place] = number
        else:
            place = len(self.cells)
            self.cells.append(number)
        self._lying[plot].append(place)
        self._held[name] = place

    def _give(self, plot):
        # What is shut already has no cells, so it need not be told from what is open.
        for inner in self._within[plot]:
            self._free.extend(self._lying[inner])
            self._lying[inner] = []


def within(plots, plot):
    """The plot's name and the names of those that lie within it."""
    return [inner for inner, outer in plots if plot in outward(plots, inner)]


def bare(plots, rows, inputs, steps):
    """The numbers that a run tells and the number of cells in the end; for what goes wrong on no way."""
    need(plots, rows)
    need_run(inputs, steps)
    cells = Cells(plots)
    course = Course(rows, inputs)
    while course.steps < steps:
        row = course.begin()
        if row[0] == "end":
            break
        cells.do(row)
        course.go_on()
    return (cells.told, len(cells.cells))
