import copy
import random
import unittest

from plotfree.facts import at_first, behind, ways_on, wrong_by
from tests.plain import PLOTS, Plain, facts_of, some_row

NAMES = ["x", "y", "z"]
ROWS = [("open", "b"), ("lay", "x", "b", 1), ("copy", "x", "y", "b"), ("same", "x", "y"), ("add", "x", "y"),
        ("tell", "x"), ("give", "c"), ("fork", 0), ("go", 0), ("end",)]
# All facts that there are of these plots and names.
FACTS = [("plot", plot, state) for plot, outer in PLOTS for state in (True, False)]
FACTS += [("name", name, where) for name in NAMES for where in [None, ""] + [plot for plot, outer in PLOTS]]


class AtFirstTest(unittest.TestCase):
    def test_the_plots_in_their_order_then_the_names_as_they_are_met(self):
        rows = [("open", "b"), ("tell", "x"), ("copy", "c", "b", "a"), ("add", "b", "z"), ("lay", "w", "a", 1),
                ("same", "y", "x"), ("give", "e"), ("fork", 1), ("go", 2), ("add", "a", "c"), ("end",), ("tell", "v")]
        wanted = [("plot", plot, False) for plot in "abcde"] + [("name", name, None) for name in "xcbzwyav"]
        self.assertEqual(at_first(PLOTS, rows), wanted)

    def test_names_are_met_from_the_left(self):
        self.assertEqual(at_first([], [("copy", "y", "x", "a"), ("same", "z", "w"), ("add", "v", "u")]),
                         [("name", name, None) for name in "yxzwvu"])

    def test_no_name_is_told_twice(self):
        rows = [("add", "x", "x"), ("tell", "x"), ("same", "y", "x"), ("copy", "y", "y", "a")]
        self.assertEqual(at_first([("x", None)], rows), [("plot", "x", False), ("name", "x", None), ("name", "y", None)])

    def test_no_plots_and_no_names(self):
        self.assertEqual(at_first([], []), [])
        self.assertEqual(at_first([("b", None), ("a", "b")], [("open", "b"), ("go", 0)]),
                         [("plot", "b", False), ("plot", "a", False)])


class WrongByTest(unittest.TestCase):
    # Each row with all facts by which it goes wrong.
    TABLE = [
        (("open", "a"), {("plot", "a", True): "open already"}),
        (("open", "b"), {("plot", "b", True): "open already", ("plot", "a", False): "not open"}),
        (("open", "d"), {("plot", "d", True): "open already", ("plot", "c", False): "not open"}),
        (("lay", "x", "b", 1), {("plot", "b", False): "not open"}),
        (("copy", "x", "y", "b"), {("name", "y", None): "nothing", ("name", "y", ""): "gone",
                                   ("plot", "b", False): "not open"}),
        (("copy", "x", "x", "e"), {("name", "x", None): "nothing", ("name", "x", ""): "gone",
                                   ("plot", "e", False): "not open"}),
        (("same", "x", "y"), {("name", "y", None): "nothing"}),
        (("same", "x", "x"), {("name", "x", None): "nothing"}),
        (("add", "x", "y"), {("name", "x", None): "nothing", ("name", "x", ""): "gone",
                             ("name", "y", None): "nothing", ("name", "y", ""): "gone"}),
        (("add", "z", "z"), {("name", "z", None): "nothing", ("name", "z", ""): "gone"}),
        (("tell", "x"), {("name", "x", None): "nothing", ("name", "x", ""): "gone"}),
        (("give", "c"), {("plot", "c", False): "not open"}),
        (("fork", 0), {}),
        (("go", 0), {}),
        (("end",), {("plot", plot, True): "left" for plot, outer in PLOTS}),
    ]

    def test_every_kind_of_row_by_every_fact(self):
        for row, words in self.TABLE:
            for fact in FACTS:
                self.assertEqual(wrong_by(PLOTS, row, fact), words.get(fact, ""), (row, fact))

    def test_names_of_plots_and_of_values_have_nothing_to_do_with_one_another(self):
        self.assertEqual(wrong_by(PLOTS, ("tell", "a"), ("plot", "a", False)), "")
        self.assertEqual(wrong_by(PLOTS, ("give", "a"), ("name", "a", None)), "")
        self.assertEqual(wrong_by(PLOTS, ("tell", "a"), ("name", "a", None)), "nothing")
        self.assertEqual(wrong_by(PLOTS, ("open", "a"), ("name", "a", "a")), "")


class BehindTest(unittest.TestCase):
    # Each row with all facts ahead that lead to something else than themselves.
    SHUT = [("plot", plot, False) for plot, outer in PLOTS]
    OPEN = [("plot", plot, True) for plot, outer in PLOTS]
    TABLE = [
        (("open", "a"), {("plot", "a", False): [("plot", "a", True)]}),
        (("open", "d"), {("plot", "d", False): [("plot", "d", True)]}),
        (("lay", "x", "b", 1), {("plot", "b", True): [("plot", "b", True), ("name", "x", "b")],
                                "x": []}),
        (("copy", "x", "y", "b"), {("plot", "b", True): [("plot", "b", True), ("name", "x", "b")], "x": []}),
        (("copy", "y", "y", "e"), {("plot", "e", True): [("plot", "e", True), ("name", "y", "e")], "y": []}),
        (("same", "x", "y"), {"x": [], "y": ["y", "x"]}),
        (("same", "x", "x"), {}),
        (("add", "x", "y"), {}),
        (("add", "x", "x"), {}),
        (("tell", "x"), {}),
        (("give", "b"), {("plot", "b", True): [("plot", "b", False)], "within": "b"}),
        (("give", "c"), {("plot", "c", True): [("plot", "c", False)], ("plot", "d", True): [("plot", "d", False)],
                         "within": "cd"}),
        (("give", "a"), {("plot", plot, True): [("plot", plot, False)] for plot in "abcd"} | {"within": "abcd"}),
        (("give", "e"), {("plot", "e", True): [("plot", "e", False)], "within": "e"}),
        (("fork", 0), {}),
        (("go", 0), {}),
        (("end",), {}),
    ]

    def wanted(self, leads, fact):
        if fact in leads:
            return leads[fact]
        if fact[0] == "name" and fact[1] in leads:
            return [("name", name, fact[2]) for name in leads[fact[1]]]
        if fact[0] == "name" and fact[2] and fact[2] in leads.get("within", ""):
            return [("name", fact[1], "")]
        return [fact]

    def test_every_kind_of_row_behind_every_fact(self):
        for row, leads in self.TABLE:
            for fact in FACTS:
                if wrong_by(PLOTS, row, fact) == "":
                    self.assertEqual(behind(PLOTS, row, fact), self.wanted(leads, fact), (row, fact))

    def test_a_new_value_on_the_plot_of_the_old_one_stems_from_the_plot(self):
        for row in (("lay", "x", "a", 1), ("copy", "x", "y", "a"), ("copy", "x", "x", "a")):
            self.assertEqual(behind(PLOTS, row, ("name", "x", "a")), [])
            self.assertEqual(behind(PLOTS, row, ("plot", "a", True)), [("plot", "a", True), ("name", "x", "a")])

    def test_what_is_told_of_the_same_name_comes_first(self):
        for where in ("", "a", "d"):
            self.assertEqual(behind(PLOTS, ("same", "x", "y"), ("name", "y", where)),
                             [("name", "y", where), ("name", "x", where)])
            self.assertEqual(behind(PLOTS, ("same", "y", "x"), ("name", "x", where)),
                             [("name", "x", where), ("name", "y", where)])
            self.assertEqual(behind(PLOTS, ("same", "x", "x"), ("name", "x", where)), [("name", "x", where)])

    def test_the_other_names_fact_may_be_of_any_kind(self):
        for where in (None, "", "a", "e"):
            self.assertEqual(behind(PLOTS, ("same", "x", "y"), ("name", "x", where)), [])

    def test_names_of_plots_and_of_values_have_nothing_to_do_with_one_another(self):
        self.assertEqual(behind(PLOTS, ("give", "a"), ("name", "a", None)), [("name", "a", None)])
        self.assertEqual(behind(PLOTS, ("give", "a"), ("name", "a", "e")), [("name", "a", "e")])
        self.assertEqual(behind(PLOTS, ("lay", "a", "e", 1), ("plot", "a", True)), [("plot", "a", True)])
        self.assertEqual(behind(PLOTS, ("same", "a", "e"), ("plot", "e", True)), [("plot", "e", True)])
        self.assertEqual(behind(PLOTS, ("lay", "a", "a", 1), ("plot", "a", True)),
                         [("plot", "a", True), ("name", "a", "a")])


class WaysOnTest(unittest.TestCase):
    def test_of_each_kind_of_row(self):
        for at, row in enumerate(ROWS[:7]):
            self.assertEqual(ways_on(ROWS, at), [(None, at + 1)], row)
        self.assertEqual(ways_on(ROWS, 7), [(0, 8), (1, 0)])
        self.assertEqual(ways_on(ROWS, 8), [(None, 0)])
        self.assertEqual(ways_on(ROWS, 9), [])

    def test_behind_the_last_row_stands_an_end(self):
        self.assertEqual(ways_on(ROWS, len(ROWS)), [])
        self.assertEqual(ways_on([], 0), [])
        self.assertEqual(ways_on([("tell", "x")], 0), [(None, 1)])

    def test_a_fork_has_two_ways_also_to_one_place(self):
        self.assertEqual(ways_on([("fork", 1)], 0), [(0, 1), (1, 1)])
        self.assertEqual(ways_on([("fork", 0)], 0), [(0, 1), (1, 0)])
        self.assertEqual(ways_on([("go", 1), ("go", 0)], 1), [(None, 0)])


class HandedTest(unittest.TestCase):
    def test_facts_look_at_nothing_that_they_are_handed(self):
        plots = [(f"p{k}", None) for k in range(20)]
        rows = [("lay", "Name1", "p19", 10 ** 20), ("go", 200)] + [("tell", "Name1")] * 70
        self.assertEqual(len(at_first(plots, rows)), 21)
        self.assertEqual(wrong_by(plots, rows[0], ("plot", "p19", False)), "not open")
        self.assertEqual(behind(plots, rows[0], ("plot", "p19", True)),
                         [("plot", "p19", True), ("name", "Name1", "p19")])
        self.assertEqual(ways_on(rows, 1), [(None, 200)])

    def test_nothing_handed_in_is_changed(self):
        plots, rows = copy.deepcopy(PLOTS), copy.deepcopy(ROWS)
        at_first(plots, rows).append(1)
        for at, row in enumerate(rows):
            ways_on(rows, at).append(1)
            for fact in FACTS:
                if wrong_by(plots, row, fact) == "":
                    behind(plots, row, fact).append(1)
        self.assertEqual((plots, rows), (PLOTS, ROWS))

    def test_kinds(self):
        for fact in at_first(PLOTS, ROWS):
            self.assertIs(type(fact), tuple)
        for at, row in enumerate(ROWS):
            self.assertIs(type(ways_on(ROWS, at)), list)
            for pair in ways_on(ROWS, at):
                self.assertIs(type(pair), tuple)
            self.assertIs(type(wrong_by(PLOTS, row, ("plot", "a", False))), str)
        for fact in behind(PLOTS, ("lay", "x", "a", 1), ("plot", "a", True)):
            self.assertIs(type(fact), tuple)


class BothWaysTest(unittest.TestCase):
    def test_what_stands_behind_many_rows_stems_from_what_stands_ahead(self):
        chance, seen = random.Random(11), {}
        for _ in range(150):
            plain = Plain(PLOTS)
            for _ in range(100):
                row = some_row(chance, PLOTS, NAMES)
                ahead = facts_of(plain, PLOTS, NAMES)
                words = [wrong_by(PLOTS, row, fact) for fact in ahead]
                word = plain.do(row)
                self.assertEqual(word != "", any(words), row)
                self.assertIn(word, words)
                if word == "":
                    stems = [one for fact in ahead for one in behind(PLOTS, row, fact)]
                    self.assertEqual(sorted(stems, key=repr), sorted(facts_of(plain, PLOTS, NAMES), key=repr), row)
                seen[row[0], word] = True
        self.assertEqual(len(seen), 8 + 2 + 1 + 3 + 1 + 2 + 2 + 1 + 1)


if __name__ == "__main__":
    unittest.main()
