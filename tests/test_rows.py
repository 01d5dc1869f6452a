import copy
import unittest

from plotfree.errors import BadPlots, BadRows
from plotfree.rows import need, outward, row_at

MOST = 10 ** 18
PLOTS = [("yard", None), ("bed", "yard"), ("shed", None)]
ROWS = [
    ("open", "yard"),
    ("open", "bed"),
    ("lay", "a", "bed", 3),
    ("copy", "b", "a", "yard"),
    ("same", "c", "b"),
    ("add", "c", "a"),
    ("tell", "b"),
    ("fork", 6),
    ("give", "yard"),
    ("go", 10),
    ("end",),
]


class NeedCase(unittest.TestCase):
    def refused_plots(self, at, plots, rows=()):
        rows = list(rows) if rows == () else rows
        with self.assertRaises(BadPlots) as caught:
            need(plots, rows)
        self.assertEqual(caught.exception.at, at, plots)
        if at is not None:
            self.assertIs(type(caught.exception.at), int)

    def refused_rows(self, at, rows, plots=PLOTS):
        with self.assertRaises(BadRows) as caught:
            need(plots, rows)
        self.assertEqual(caught.exception.at, at, rows)
        if at is not None:
            self.assertIs(type(caught.exception.at), int)

    def taken(self, plots, rows):
        self.assertIs(need(plots, rows), True)


class NeedTest(NeedCase):
    def test_a_program_is_taken(self):
        self.taken(PLOTS, ROWS)
        self.taken([], [])
        self.taken(PLOTS, [])
        self.taken([], [("tell", "a"), ("end",)])

    def test_bad_plots_come_ahead_of_bad_rows(self):
        self.refused_plots(1, [("a", None), "b"], [("tell",)])
        self.refused_plots(1, [("a", None), "b"], None)
        self.refused_plots(None, None, None)
        self.refused_plots(11, [(c, None) for c in "abcdefghijk"] + [("a", None)], [("end",)] * 61)

    def test_nothing_handed_in_is_changed(self):
        plots, rows = copy.deepcopy(PLOTS), copy.deepcopy(ROWS)
        need(plots, rows)
        self.assertEqual((plots, rows), (PLOTS, ROWS))
        bad = rows + [["end"]]
        self.refused_rows(len(rows), bad, plots)
        self.assertEqual((plots, bad), (PLOTS, ROWS + [["end"]]))


class PlotsTest(NeedCase):
    def test_there_must_be_a_list(self):
        for plots in (None, (), tuple(PLOTS), {}, {"a": None}, "", "ab", 0, True):
            self.refused_plots(None, plots)

    def test_twelve_are_taken_and_thirteen_not(self):
        thirteen = [(c, None) for c in "abcdefghijklm"]
        self.taken(thirteen[:12], [])
        self.refused_plots(None, thirteen)
        self.refused_plots(None, [None] + thirteen[1:])

    def test_each_is_a_pair(self):
        for pair in (None, "a", "ab", 0, True, (), ("a",), ("a", None, None), ["a", None], {"a": None}):
            self.refused_plots(0, [pair])
            self.refused_plots(1, [("z", None), pair, pair])

    def test_a_list_is_no_pair_though_it_has_a_good_outer_plot(self):
        self.refused_plots(1, [("a", None), ["b", "a"], ("c", "a")])

    def test_names_of_plots(self):
        for name in ("a", "z", "az", "abcdefgh", "zzzzzzzz", "end"):
            self.taken([(name, None)], [("open", name)])
        for name in ("", "abcdefghi", "A", "aB", "a1", "1", "a b", " a", "a\n", "a_", "\u00e4", "`", "{",
                     b"a", None, 0, True, ("a",), ["a"], {}):
            self.refused_plots(0, [(name, None)])
            self.refused_plots(1, [("a", None), (name, "a"), ("a", None)])

    def test_no_plot_stands_twice(self):
        self.refused_plots(1, [("a", None), ("a", None)])
        self.refused_plots(2, [("a", None), ("b", "a"), ("b", None), ("a", None)])
        self.refused_plots(2, [("a", None), ("b", "a"), ("a", "b")])

    def test_an_outer_plot_stands_ahead(self):
        self.taken([("a", None), ("b", "a"), ("c", "b"), ("d", "a")], [])
        self.refused_plots(0, [("b", "a"), ("a", None)])
        self.refused_plots(0, [("a", "a")])
        self.refused_plots(1, [("a", None), ("b", "c"), ("c", None)])
        self.refused_plots(2, [("a", None), ("b", "a"), ("c", "d")])

    def test_an_outer_plot_is_a_name_or_none(self):
        for outer in ("", "b", 0, False, True, ("a",), ["a"], ("a", None), b"a", {}):
            self.refused_plots(1, [("a", None), ("c", outer)])

    def test_plots_may_lie_within_one_another_all_twelve(self):
        names = list("abcdefghijkl")
        self.taken(list(zip(names, [None] + names[:-1])), [])


class RowsTest(NeedCase):
    def test_there_must_be_a_list(self):
        for rows in (None, (), tuple(ROWS), {}, "", "ab", 0, True):
            self.refused_rows(None, rows)

    def test_sixty_are_taken_and_sixty_one_not(self):
        self.taken(PLOTS, [("end",)] * 60)
        self.refused_rows(None, [("end",)] * 61)
        self.refused_rows(None, [None] + [("end",)] * 60)

    def test_the_first_bad_row_is_told(self):
        self.refused_rows(0, [None, None])
        self.refused_rows(2, [("end",), ("tell", "a"), ("tell",), ("lay",)])
        self.refused_rows(59, [("end",)] * 59 + [("stop",)])

    def test_each_is_a_tuple_of_a_known_word_and_what_goes_with_it(self):
        for row in (None, 0, True, "end", (), ["end"], {"end": 1}, ("",), ("End",), ("stop",), (None,), (0,),
                    (b"end",), (["end"],), (("end",),)):
            self.refused_rows(0, [row])
            self.refused_rows(1, [("end",), row])

    def test_a_list_is_no_row(self):
        for row in ROWS:
            self.refused_rows(1, [("end",), list(row)] + [("end",)] * 9)

    def test_no_row_is_shorter_or_longer(self):
        for row in ROWS:
            self.taken(PLOTS, [row] + [("end",)] * 9)
            self.refused_rows(0, [row[:-1]] + [("end",)] * 9)
            for more in (None, "a", "yard", 0):
                self.refused_rows(0, [row + (more,)] + [("end",)] * 9)

    def test_the_order_of_the_parts(self):
        self.taken([("p", None)], [("lay", "a", "p", 1), ("copy", "a", "b", "p")])
        self.refused_rows(0, [("lay", "p", "a", 1)], [("p", None)])
        self.refused_rows(0, [("lay", "a", 1, "p")], [("p", None)])
        self.refused_rows(0, [("copy", "a", "p", "b")], [("p", None)])
        self.refused_rows(0, [("copy", "p", "a", "b")], [("p", None)])

    def test_names_of_values(self):
        def rows_of(name):
            return [("lay", name, "yard", 1), ("copy", name, "a", "yard"), ("copy", "a", name, "yard"),
                    ("same", name, "a"), ("same", "a", name), ("add", name, "a"), ("add", "a", name),
                    ("tell", name)]
        for name in ("a", "z", "abcdefgh", "yard", "open"):
            self.taken(PLOTS, rows_of(name))
        for name in ("", "abcdefghi", "A", "a1", "a b", "a\n", "\u00e4", "`", "{", b"a", None, 0, True,
                     ("a",), ["a"], {}):
            for row in rows_of(name):
                self.refused_rows(1, [("end",), row])

    def test_a_plot_in_a_row_is_one_of_the_programs(self):
        def rows_of(plot):
            return [("open", plot), ("lay", "a", plot, 1), ("copy", "a", "b", plot), ("give", plot)]
        for plot in ("yard", "bed", "shed"):
            self.taken(PLOTS, rows_of(plot))
        for plot in ("", "a", "yar", "yards", "Yard", None, 0, False, True, ("yard",), ["yard"], ("yard", None), {}):
            for row in rows_of(plot):
                self.refused_rows(1, [("end",), row])

    def test_numbers(self):
        for number in (0, 1, -1, MOST, -MOST, MOST - 1):
            self.taken(PLOTS, [("lay", "a", "yard", number)])
        for number in (MOST + 1, -MOST - 1, 10 ** 30, True, False, None, 1.0, "1", (1,), [1]):
            self.refused_rows(0, [("lay", "a", "yard", number)])

    def test_places(self):
        for word in ("fork", "go"):
            for many in (1, 2, 60):
                for place in (0, many - 1, many):
                    self.taken(PLOTS, [("end",)] * (many - 1) + [(word, place)])
                for place in (-1, many + 1, True, False, None, 0.0, "0", (0,), [0]):
                    self.refused_rows(many - 1, [("end",)] * (many - 1) + [(word, place)])


class RowAtTest(unittest.TestCase):
    def test_the_row_at_a_place(self):
        for place, row in enumerate(ROWS):
            self.assertEqual(row_at(ROWS, place), row)

    def test_the_end_behind_the_last_row(self):
        self.assertEqual(row_at(ROWS, len(ROWS)), ("end",))
        self.assertEqual(row_at([("go", 1)], 1), ("end",))
        self.assertEqual(row_at([], 0), ("end",))

    def test_it_looks_at_nothing(self):
        self.assertEqual(row_at([("stop", 1), None], 0), ("stop", 1))
        self.assertEqual(row_at([("tell", "a")] * 70, 69), ("tell", "a"))
        self.assertEqual(row_at([("tell", "a")] * 70, 70), ("end",))

    def test_nothing_handed_in_is_changed(self):
        rows = copy.deepcopy(ROWS)
        row_at(rows, len(rows))
        self.assertEqual(rows, ROWS)


class OutwardTest(unittest.TestCase):
    def test_from_the_inside_out(self):
        plots = [("a", None), ("b", "a"), ("c", "a"), ("d", "c"), ("e", None), ("f", "d")]
        self.assertEqual(outward(plots, "a"), ["a"])
        self.assertEqual(outward(plots, "b"), ["b", "a"])
        self.assertEqual(outward(plots, "d"), ["d", "c", "a"])
        self.assertEqual(outward(plots, "e"), ["e"])
        self.assertEqual(outward(plots, "f"), ["f", "d", "c", "a"])

    def test_each_answer_is_a_list_of_its_own(self):
        first = outward(PLOTS, "bed")
        first.append("x")
        self.assertEqual(outward(PLOTS, "bed"), ["bed", "yard"])

    def test_it_looks_at_nothing(self):
        names = [str(k) for k in range(40)]
        plots = list(zip(names, [None] + names[:-1]))
        self.assertEqual(outward(plots, "39"), list(reversed(names)))

    def test_nothing_handed_in_is_changed(self):
        plots = copy.deepcopy(PLOTS)
        outward(plots, "bed")
        self.assertEqual(plots, PLOTS)


if __name__ == "__main__":
    unittest.main()
