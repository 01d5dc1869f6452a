"""Runs of programs."""

from plotfree.facts import ways_on
from plotfree.rows import need, need_run, row_at
from plotfree.store import Store


class Outcome:
    """How a run ended, and what it told, opened and gave back until then."""

    def __init__(self, end, course, store):
        self.end = end
        self.row = course.place
        self.steps = course.steps
        self.told = store.told
        self.opened = store.opened
        self.given = store.given


class Course:
    """The place that a run has come to, and how many steps it has done."""

    def __init__(self, rows, inputs):
        self.place = 0
        self.steps = 0
        self._rows = rows
        self._ways = [ways_on(rows, place) for place in range(len(rows) + 1)]
        self._inputs = inputs
        self._taken = 0

    def begin(self):
        """The row at the place; to begin it is a step."""
        self.steps += 1
        return row_at(self._rows, self.place)

    def go_on(self):
        """To the place that follows a row that is no end; a fork takes the next input."""
        ways = self._ways[self.place]
        at = 0
        if len(ways) > 1:
            at = self._take()
        self.place = ways[at][1]

    def _take(self):
        """The choice by the next input; behind the last one all inputs are nought."""
        if self._taken == len(self._inputs):
            return 0
        number = self._inputs[self._taken]
        self._taken += 1
        if number == 0:
            return 0
        return 1


def run(plots, rows, inputs, steps):
    """The Outcome of a run that may have so many steps."""
    need(plots, rows)
    need_run(inputs, steps)
    store = Store(plots)
    course = Course(rows, inputs)
    while course.steps < steps:
        end = end_by(store, course.begin())
        if end != "":
            return Outcome(end, course, store)
        course.go_on()
    return Outcome("going", course, store)


def end_by(store, row):
    """Does the row; how it ends the run, or the empty text."""
    if row[0] == "fork" or row[0] == "go":
        return ""
    wrong = store.do(row)
    if wrong == "" and row[0] == "end":
        return "done"
    return wrong
