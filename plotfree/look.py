"""Looking at a program ahead of any run."""

from plotfree.facts import at_first, behind, ways_on, wrong_by
from plotfree.machine import run
from plotfree.rows import need, row_at


class Wrong:
    """A way on which a row goes wrong: its choices, and the place, word and steps of a run by them."""

    def __init__(self, choices, row, word, steps):
        self.choices = choices
        self.row = row
        self.word = word
        self.steps = steps


def look(plots, rows):
    """None where no row goes wrong on any way, else a Wrong of a way with the fewest steps."""
    need(plots, rows)
    # Each fact stems from one fact and each word follows from one, so single facts may be followed
    # by themselves, each from each place only once, however many ways lead there.
    standing = [(0, fact) for fact in at_first(plots, rows)]
    stems = {stand: None for stand in standing}
    while len(standing) > 0:
        for place, fact in standing:
            if wrong_by(plots, row_at(rows, place), fact) != "":
                return wrong_way(plots, rows, stems, (place, fact))
        standing = next_standing(plots, rows, stems, standing)
    return None


def next_standing(plots, rows, stems, standing):
    """Facts at places that are met for the first time one step on; notes in stems what each one stems from."""
    found = []
    for place, fact in standing:
        facts = behind(plots, row_at(rows, place), fact)
        for choice, follower in ways_on(rows, place):
            for one in facts:
                if (follower, one) not in stems:
                    stems[(follower, one)] = (place, fact, choice)
                    found.append((follower, one))
    return found


def wrong_way(plots, rows, stems, stand):
    """The Wrong of the way on which the fact came to stand at its place."""
    choices = []
    steps = 1
    stem = stems[stand]
    while stem is not None:
        place, fact, choice = stem
        if choice is not None:
            choices.append(choice)
        steps += 1
        stem = stems[(place, fact)]
    choices.reverse()
    # More than one fact may stand against the last row; the run tells which word comes first.
    outcome = run(plots, rows, choices, steps)
    return Wrong(choices, outcome.row, outcome.end, outcome.steps)
