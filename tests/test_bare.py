import copy
import random
import unittest

from plotfree.bare import bare
from plotfree.errors import BadPlots, BadRows, BadRun
from plotfree.look import look
from plotfree.machine import run
from tests.plain import PLOTS, PlainRun, some_good_program
from tests.test_look import LETTERS, nested


class BareCase(unittest.TestCase):
    def seen(self, wanted, rows, inputs=(), steps=1000, plots=PLOTS):
        """Compares what is told and the cells, of a program that goes wrong on no way."""
        self.assertIsNone(look(plots, rows), rows)
        found = bare(plots, rows, list(inputs), steps)
        self.assertIs(type(found), tuple)
        self.assertEqual(found, wanted, rows)
        plain = PlainRun(plots, rows, inputs, steps)
        self.assertEqual(found, (plain.plain.told, plain.most))
        self.assertEqual(found[0], run(plots, rows, list(inputs), steps).told)


class ToldTest(BareCase):
    def test_it_tells_what_a_run_tells(self):
        rows = [("open", "a"), ("open", "e"), ("lay", "x", "a", 5), ("lay", "y", "e", -8), ("add", "x", "y"),
                ("tell", "x"), ("tell", "y"), ("add", "x", "x"), ("tell", "x"), ("give", "e"), ("tell", "x"),
                ("give", "a")]
        self.seen(([-3, -8, -6, -6], 2), rows)

    def test_same_shares_a_cell_and_copy_takes_its_own(self):
        rows = [("open", "a"), ("lay", "x", "a", 5), ("same", "y", "x"), ("copy", "z", "x", "a"), ("add", "y", "z"),
                ("tell", "x"), ("tell", "y"), ("tell", "z"), ("copy", "x", "x", "a"), ("add", "x", "x"), ("tell", "x"),
                ("tell", "y"), ("give", "a")]
        self.seen(([10, 10, 5, 20, 10], 3), rows)

    def test_a_name_that_holds_what_is_gone_does_no_harm(self):
        # y goes on holding the cell that x is given next.
        rows = [("open", "a"), ("lay", "x", "a", 5), ("same", "y", "x"), ("give", "a"), ("same", "z", "y"),
                ("open", "a"), ("lay", "x", "a", 6), ("same", "w", "z"), ("tell", "x"), ("same", "y", "x"),
                ("add", "y", "x"), ("tell", "x"), ("give", "a")]
        self.seen(([6, 12], 1), rows)

    def test_sums_may_be_of_any_size(self):
        rows = [("open", "a"), ("lay", "x", "a", -10 ** 18), ("add", "x", "x"), ("fork", 2), ("tell", "x"),
                ("give", "a")]
        self.seen(([-10 ** 18 * 2 ** 200], 1), rows, [1] * 199)

    def test_names_of_plots_and_of_values_have_nothing_to_do_with_one_another(self):
        rows = [("open", "a"), ("open", "e"), ("lay", "e", "a", 1), ("lay", "a", "e", 2), ("give", "e"), ("tell", "e"),
                ("give", "a")]
        self.seen(([1], 2), rows)


class StepsTest(BareCase):
    ROWS = [("open", "a"), ("lay", "x", "a", 1), ("tell", "x"), ("lay", "x", "a", 2), ("fork", 2), ("tell", "x"),
            ("give", "a")]

    def test_by_the_same_steps(self):
        for steps, told, cells in ((0, [], 0), (1, [], 0), (2, [], 1), (3, [1], 1), (4, [1], 2), (5, [1], 2),
                                   (6, [1, 2], 2), (7, [1, 2], 2), (9, [1, 2], 2)):
            self.seen((told, cells), self.ROWS, [0], steps)

    def test_by_the_same_inputs(self):
        self.seen(([1, 2], 2), self.ROWS)
        self.seen(([1, 2, 2], 3), self.ROWS, [1])
        self.seen(([1, 2, 2], 3), self.ROWS, [-10 ** 20])
        self.seen(([1, 2, 2, 2], 4), self.ROWS, [1, 7])
        self.seen(([1, 2, 2], 3), self.ROWS, [1, 0, 1, 1, 1])
        self.seen(([1, 2], 3), self.ROWS, [1, 1, 1, 1, 1], 7)

    def test_an_end_ends_it(self):
        self.seen(([], 0), [])
        self.seen(([], 0), [], plots=[])
        self.seen(([], 0), [("end",), ("tell", "x")])
        self.seen(([1], 1), [("open", "a"), ("lay", "x", "a", 1), ("tell", "x"), ("give", "a"), ("fork", 6), ("end",),
                             ("open", "a"), ("lay", "x", "a", 3), ("tell", "x"), ("give", "a")])
        self.seen(([1, 3], 1), [("open", "a"), ("lay", "x", "a", 1), ("tell", "x"), ("give", "a"), ("fork", 6),
                                ("end",), ("open", "a"), ("lay", "x", "a", 3), ("tell", "x"), ("give", "a")], [1])

    def test_a_loop_without_an_end(self):
        rows = [("open", "a"), ("lay", "x", "a", 4), ("tell", "x"), ("give", "a"), ("go", 0)]
        self.seen(([4] * 20, 1), rows, [], 99)
        self.assertEqual(bare(PLOTS, rows, [], 1000000), ([4] * 200000, 1))


class CellsTest(BareCase):
    def test_cells_of_what_is_given_back_are_used_again(self):
        rows = [("open", "a"), ("lay", "x", "a", 1), ("lay", "y", "a", 2), ("give", "a"),
                ("open", "e"), ("lay", "x", "e", 3), ("lay", "y", "e", 4), ("lay", "z", "e", 5), ("tell", "x"),
                ("tell", "y"), ("tell", "z"), ("give", "e")]
        self.seen(([3, 4, 5], 3), rows)

    def test_cells_of_other_open_plots_are_kept(self):
        rows = [("open", "e"), ("lay", "v", "e", 9), ("open", "a"), ("lay", "x", "a", 1), ("lay", "y", "a", 2),
                ("give", "a"), ("lay", "w", "e", 8), ("open", "a"), ("lay", "x", "a", 3), ("tell", "v"), ("tell", "w"),
                ("tell", "x"), ("give", "e"), ("tell", "x"), ("give", "a")]
        self.seen(([9, 8, 3, 3], 3), rows)

    def test_cells_of_plots_within_are_used_again(self):
        rows = [("open", "a"), ("open", "c"), ("open", "d"), ("open", "b")]
        rows += [("lay", name, plot, at) for at, (name, plot) in enumerate(zip("wxyz", "abcd"))]
        rows += [("give", "c"), ("lay", "y", "a", 7), ("lay", "z", "b", 8)]
        rows += [("tell", name) for name in "wxyz"] + [("give", "a"), ("open", "e")]
        rows += [("lay", name, "e", at) for at, name in enumerate("wxyz")] + [("tell", name) for name in "zyxw"]
        self.seen(([0, 1, 7, 8, 3, 2, 1, 0], 4), rows + [("give", "e")])

    def test_all_twelve_within_one_another(self):
        rows = [("open", c) for c in LETTERS] + [("lay", c, c, at) for at, c in enumerate(LETTERS)]
        rows += [("tell", c) for c in LETTERS] + [("give", "a"), ("fork", 0)]
        self.seen((list(range(12)) * 3, 12), rows, [1, 1], plots=nested(12))

    def test_plots_within_may_be_shut_already(self):
        # c is given back on its own, then a with b alone, then a with c that was opened again.
        rows = [("open", "a"), ("open", "c"), ("lay", "x", "c", 1), ("give", "c"), ("open", "b"), ("lay", "y", "b", 2),
                ("lay", "z", "b", 3), ("fork", 10), ("open", "c"), ("lay", "x", "c", 4), ("give", "a"), ("fork", 0)]
        self.seen(([], 3), rows, [0, 1, 1, 1, 0, 0])
        self.seen(([], 2), rows, [1])

    def test_values_that_no_name_holds_any_longer_stay_until_their_plot_is_given_back(self):
        rows = [("open", "a"), ("lay", "x", "a", 1), ("lay", "x", "a", 2), ("copy", "x", "x", "a"), ("tell", "x"),
                ("give", "a")]
        self.seen(([2], 3), rows)
        rows = [("open", "a"), ("lay", "x", "a", 1), ("fork", 1), ("give", "a"), ("fork", 0)]
        self.seen(([], 3), rows, [1, 0, 1, 1, 1, 0, 0])

    def test_same_add_and_tell_take_no_cells(self):
        rows = [("open", "a"), ("lay", "x", "a", 1)] + [("same", name, "x") for name in "uvwyz"]
        rows += [("add", "u", name) for name in "uvwyz"] + [("tell", "z"), ("give", "a")]
        self.seen(([32], 1), rows)

    def test_a_plot_without_values_takes_no_cells(self):
        self.seen(([], 0), [("open", "a"), ("open", "b"), ("give", "a"), ("fork", 0)], [1] * 9)

    def test_the_most_need_not_stand_at_the_end(self):
        rows = [("open", "a")] + [("lay", "x", "a", k) for k in range(30)] + [("give", "a"), ("open", "e")]
        rows += [("lay", "x", "e", 5), ("tell", "x"), ("give", "e")]
        self.seen(([5], 30), rows)
        self.seen(([], 30), rows, [], 33)
        self.seen(([], 9), rows, [], 10)

    def test_a_million_steps(self):
        rows = [("open", "a"), ("lay", "x", "a", 1), ("go", 1)]
        self.assertEqual(bare(PLOTS, rows, [], 1000000), ([], 500000))
        rows = [("open", "e"), ("lay", "n", "e", 0), ("lay", "i", "e", 1), ("open", "a"), ("open", "b"),
                ("copy", "x", "n", "b"), ("add", "x", "i"), ("add", "n", "x"), ("give", "a"), ("go", 3)]
        self.assertEqual(bare(PLOTS, rows, [], 1000000), ([], 3))


class RefusedTest(BareCase):
    def refused(self, refusal, plots, rows, inputs, steps):
        with self.assertRaises(refusal) as caught:
            bare(plots, rows, inputs, steps)
        self.assertIs(type(caught.exception), refusal)
        return caught.exception

    def test_bad_plots_come_first_then_bad_rows_then_bad_runs(self):
        self.assertEqual(self.refused(BadPlots, [("a", None), ("a", None)], None, None, None).at, 1)
        self.assertIsNone(self.refused(BadPlots, nested(13), [], [], 1).at)
        self.assertEqual(self.refused(BadRows, PLOTS, [("go", 3), ("open", "a")], None, None).at, 0)
        self.assertIsNone(self.refused(BadRows, PLOTS, (), None, -1).at)

    def test_inputs_and_steps(self):
        for inputs in (None, (), "", {}, [True], [False], [None], [0, "1"], [1.0], [0, [1]]):
            self.refused(BadRun, PLOTS, [], inputs, 10)
        for steps in (None, True, False, -1, 1000001, "1", 1.0, [1]):
            self.refused(BadRun, PLOTS, [], [], steps)

    def test_nothing_handed_in_is_changed(self):
        plots, rows, inputs = copy.deepcopy(PLOTS), list(StepsTest.ROWS), [1, 0, 1]
        bare(plots, rows, inputs, 100)
        self.assertEqual((plots, rows, inputs), (PLOTS, StepsTest.ROWS, [1, 0, 1]))


class BothWaysTest(BareCase):
    def test_many_programs_that_go_wrong_on_no_way(self):
        chance, cells, forks = random.Random(17), {}, 0
        for at in range(1500):
            rows = some_good_program(chance, PLOTS, "abxy", chance.randint(3, 20))
            if look(PLOTS, rows) is None:
                for inputs in ([], [1] * 4, [chance.randint(0, 1) for _ in range(8)]):
                    for steps in (7, 80):
                        plain = PlainRun(PLOTS, rows, inputs, steps)
                        self.assertIn(plain.end, ("done", "going"))
                        self.assertEqual(bare(PLOTS, rows, inputs, steps), (plain.plain.told, plain.most), rows)
                cells[plain.most] = True
                forks += any(row[0] == "fork" for row in rows)
        self.assertGreater(len(cells), 4)
        self.assertGreater(forks, 100)


if __name__ == "__main__":
    unittest.main()
