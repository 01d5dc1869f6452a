"""What stands ahead of a row and behind it, told by single facts."""

from plotfree.rows import SHAPES, outward, row_at


def at_first(plots, rows):
    """The facts at the beginning: the plots' in their order, then the names' as they are first met."""
    facts = [("plot", plot, False) for plot, outer in plots]
    return facts + [("name", name, None) for name in names_in(rows)]


def names_in(rows):
    """The names of values in the rows, each once, row by row, from the left."""
    names = {}
    for row in rows:
        for part, kind in zip(row[1:], SHAPES[row[0]]):
            if kind == "name":
                names[part] = True
    return list(names)


def wrong_by(plots, row, fact):
    """The word by which the row goes wrong by that fact alone, or the empty text."""
    kind, what, state = fact
    if kind == "name":
        return wrong_by_name(row, what, state)
    if state:
        return wrong_by_open(row, what)
    if what == wanted_plot(plots, row):
        return "not open"
    return ""


def wrong_by_open(row, plot):
    """The word by which the row goes wrong because the plot is open, or the empty text."""
    if row[0] == "end":
        return "left"
    if row == ("open", plot):
        return "open already"
    return ""


def wrong_by_name(row, name, where):
    """The word by which the row goes wrong because the name holds a value there, or the empty text."""
    if name not in wanted_names(row):
        return ""
    if where is None:
        return "nothing"
    # A value that is gone may be held by more names.
    if where == "" and row[0] != "same":
        return "gone"
    return ""


def wanted_plot(plots, row):
    """The plot that must be open ahead of the row, or None."""
    word = row[0]
    if word == "open":
        return dict(plots)[row[1]]
    if word == "copy":
        return row[3]
    if word == "lay":
        return row[2]
    if word == "give":
        return row[1]
    return None


def wanted_names(row):
    """The names that must hold something ahead of the row."""
    word = row[0]
    if word == "copy" or word == "same":
        return (row[2],)
    if word == "add" or word == "tell":
        return row[1:]
    return ()


def behind(plots, row, fact):
    """The facts behind the row that stem from the fact, that of the same plot or name first."""
    if fact[0] == "name":
        return behind_name(plots, row, fact)
    return behind_plot(plots, row, fact)


def behind_plot(plots, row, fact):
    """The facts behind the row that stem from a plot's fact."""
    plot = fact[1]
    if row == ("open", plot):
        return [("plot", plot, True)]
    if gives_back(plots, row, plot):
        return [("plot", plot, False)]
    if lays(row) and wanted_plot(plots, row) == plot:
        return [fact, ("name", row[1], plot)]
    return [fact]


def behind_name(plots, row, fact):
    """The facts behind the row that stem from a name's fact."""
    name = fact[1]
    where = fact[2]
    if row[0] == "same" and row[2] == name and row[1] != name:
        return [fact, ("name", row[1], where)]
    if row[0] == "same" and row[1] == name and row[2] != name:
        return []
    # A new value's fact stems from its plot, even where the name held one on that plot ahead of the row.
    if lays(row) and row[1] == name:
        return []
    # What holds nothing, and what is gone, lies on no plot.
    if where and gives_back(plots, row, where):
        return [("name", name, "")]
    return [fact]


def lays(row):
    """Whether the row lays a new value."""
    return row[0] == "lay" or row[0] == "copy"


def gives_back(plots, row, plot):
    """Whether the row gives the plot back, alone or with one that it lies within."""
    return row[0] == "give" and row[1] in outward(plots, plot)


def ways_on(rows, place):
    """Pairs (choice, place) of where it may go on behind the row at the place."""
    row = row_at(rows, place)
    word = row[0]
    if word == "end":
        return []
    if word == "go":
        return [(None, row[1])]
    if word == "fork":
        return [(0, place + 1), (1, row[1])]
    return [(None, place + 1)]
