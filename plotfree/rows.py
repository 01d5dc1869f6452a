"""What a program is: its plots and its rows; and what a run of it may be given."""

from plotfree.errors import BadPlots, BadRows, BadRun

MOST_PLOTS = 12
MOST_ROWS = 60
MOST_LETTERS = 8
LETTERS = "abcdefghijklmnopqrstuvwxyz"
# Ten to the eighteenth.
MOST_NUMBER = 1000000000000000000
MOST_STEPS = 1000000

# What goes with each word, in the order in which it is written.
SHAPES = {
    "open": ("plot",),
    "lay": ("name", "plot", "number"),
    "copy": ("name", "name", "plot"),
    "same": ("name", "name"),
    "add": ("name", "name"),
    "tell": ("name",),
    "give": ("plot",),
    "fork": ("place",),
    "go": ("place",),
    "end": (),
}


def need(plots, rows):
    """True for a program; refuses with BadPlots, then with BadRows."""
    names = need_plots(plots)
    return need_rows(names, rows)


def need_plots(plots):
    """The names of the plots, in their order; refuses with BadPlots."""
    if not isinstance(plots, list) or len(plots) > MOST_PLOTS:
        raise BadPlots(None)
    names = []
    for at, pair in enumerate(plots):
        if not is_pair(pair, names):
            raise BadPlots(at)
        names.append(pair[0])
    return names


def need_rows(names, rows):
    """True for rows over plots of these names; refuses with BadRows."""
    if not isinstance(rows, list) or len(rows) > MOST_ROWS:
        raise BadRows(None)
    for at, row in enumerate(rows):
        if not is_row(row, names, len(rows)):
            raise BadRows(at)
    return True


def need_run(inputs, steps):
    """True for what a run may be given beside its program; refuses with BadRun."""
    if not isinstance(inputs, list):
        raise BadRun("the inputs are no list")
    for number in inputs:
        if not is_number(number):
            raise BadRun("an input is no whole number")
    if not is_whole(steps, 0, MOST_STEPS):
        raise BadRun(f"the steps are no whole number from 0 to {MOST_STEPS}")
    return True


def is_pair(pair, ahead):
    """Whether it is a plot with its outer one, behind the plots of the names ahead."""
    if not isinstance(pair, tuple) or len(pair) != 2:
        return False
    plot, outer = pair
    if not is_name(plot) or plot in ahead:
        return False
    return outer is None or outer in ahead


def is_row(row, names, last):
    """Whether it is a row over plots of these names, with places up to the last one."""
    if not isinstance(row, tuple) or len(row) == 0:
        return False
    word = row[0]
    if not isinstance(word, str) or word not in SHAPES:
        return False
    shape = SHAPES[word]
    if len(row) != len(shape) + 1:
        return False
    for part, kind in zip(row[1:], shape):
        if not is_part(part, kind, names, last):
            return False
    return True


def is_part(part, kind, names, last):
    """Whether it is what a shape calls by this kind."""
    if kind == "plot":
        return part in names
    if kind == "name":
        return is_name(part)
    if kind == "number":
        return is_whole(part, -MOST_NUMBER, MOST_NUMBER)
    return is_whole(part, 0, last)


def is_name(text):
    """Whether it is a text of 1 to 8 letters a to z."""
    if not isinstance(text, str) or len(text) < 1 or len(text) > MOST_LETTERS:
        return False
    for letter in text:
        if letter not in LETTERS:
            return False
    return True


def is_number(number):
    """Whether it is a whole number of any size."""
    # Python counts True and False among the integers; the document does not.
    return isinstance(number, int) and not isinstance(number, bool)


def is_whole(number, low, high):
    """Whether it is a whole number from low to high."""
    return is_number(number) and low <= number and number <= high


def row_at(rows, place):
    """The row at a place, or the unwritten end behind the last one."""
    if place < len(rows):
        return rows[place]
    return ("end",)


def outward(plots, plot):
    """The plot's name and the names of those that it lies within, from the inside out."""
    found = []
    wanted = plot
    # An outer plot stands ahead of those within it, so one way back meets them all.
    for name, outer in reversed(plots):
        if name == wanted:
            found.append(name)
            wanted = outer
    return found
