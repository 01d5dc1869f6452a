"""The refusals of plotfree."""


class PlotError(ValueError):
    """Any refusal."""


class BadPlots(PlotError):
    """The plots are not as they should be; `at` is the place of the first bad pair, or None."""

    def __init__(self, at):
        super().__init__(f"bad plots, at {at}")
        self.at = at


class BadRows(PlotError):
    """The rows are not as they should be; `at` is the place of the first bad row, or None."""

    def __init__(self, at):
        super().__init__(f"bad rows, at {at}")
        self.at = at


class BadRun(PlotError):
    """The inputs or the steps of a run are not as they should be."""
