import copy
import random
import unittest

from plotfree.errors import BadPlots, BadRows, BadRun
from plotfree.machine import Outcome, run
from tests.plain import PLOTS, PlainRun, some_good_program, some_program

# Which rows come to each word of [5], and the place of the row that goes wrong.
WRONG = [
    ("open already", 1, [("open", "a"), ("open", "a")]),
    ("not open", 0, [("open", "b")]),
    ("not open", 2, [("open", "a"), ("open", "e"), ("open", "d")]),
    ("not open", 0, [("lay", "x", "a", 1)]),
    ("not open", 2, [("open", "a"), ("lay", "x", "a", 1), ("copy", "y", "x", "e")]),
    ("not open", 1, [("open", "a"), ("give", "e")]),
    ("not open", 3, [("open", "a"), ("open", "b"), ("give", "a"), ("give", "b")]),
    ("nothing", 0, [("copy", "y", "x", "a")]),
    ("nothing", 0, [("same", "y", "x")]),
    ("nothing", 0, [("add", "x", "x")]),
    ("nothing", 2, [("open", "a"), ("lay", "x", "a", 1), ("add", "x", "y")]),
    ("nothing", 1, [("open", "a"), ("tell", "x")]),
    ("gone", 3, [("open", "a"), ("lay", "x", "a", 1), ("give", "a"), ("copy", "y", "x", "a")]),
    ("gone", 4, [("open", "a"), ("lay", "x", "a", 1), ("give", "a"), ("open", "a"), ("add", "x", "y")]),
    ("gone", 5, [("open", "a"), ("lay", "x", "a", 1), ("open", "e"), ("lay", "y", "e", 1), ("give", "e"),
                 ("add", "x", "y")]),
    ("gone", 5, [("open", "a"), ("lay", "x", "a", 1), ("give", "a"), ("same", "y", "x"), ("open", "a"),
                 ("tell", "y")]),
    ("left", 1, [("open", "e")]),
    ("left", 1, [("open", "a"), ("end",), ("give", "a")]),
]


def all_of(outcome):
    return outcome.end, outcome.row, outcome.steps, outcome.told, outcome.opened, outcome.given


class MachineCase(unittest.TestCase):
    def seen(self, wanted, rows, inputs=(), steps=1000, plots=PLOTS):
        """Compares the end, the row, the steps and what is told."""
        outcome = run(plots, list(rows), list(inputs), steps)
        self.assertIsInstance(outcome, Outcome)
        self.assertEqual((outcome.end, outcome.row, outcome.steps, outcome.told), wanted, rows)
        return outcome

    def refused(self, refusal, plots, rows, inputs, steps):
        with self.assertRaises(refusal) as caught:
            run(plots, rows, inputs, steps)
        self.assertIs(type(caught.exception), refusal)
        return caught.exception


class EndsTest(MachineCase):
    def test_each_word_ends_a_run(self):
        for word, place, rows in WRONG:
            self.seen((word, place, place + 1, []), rows)

    def test_a_row_that_goes_wrong_does_nothing(self):
        outcome = self.seen(("open already", 3, 4, [5]), [("open", "a"), ("lay", "x", "a", 5), ("tell", "x"),
                                                          ("open", "a"), ("tell", "x"), ("give", "a")])
        self.assertEqual((outcome.opened, outcome.given), (1, []))

    def test_done_by_a_written_end_and_by_the_unwritten_one(self):
        self.seen(("done", 0, 1, []), [])
        self.seen(("done", 0, 1, []), [], plots=[])
        self.seen(("done", 0, 1, []), [("end",), ("tell", "x")])
        outcome = self.seen(("done", 4, 5, [7]), [("open", "a"), ("lay", "x", "a", 7), ("tell", "x"), ("give", "a")])
        self.assertEqual((outcome.opened, outcome.given), (1, [0]))

    def test_a_go_to_the_number_of_rows_comes_to_the_unwritten_end(self):
        self.seen(("done", 2, 2, []), [("go", 2), ("tell", "x")])
        self.seen(("left", 3, 3, []), [("open", "a"), ("go", 3), ("give", "a")])

    def test_going(self):
        rows = [("open", "a"), ("lay", "x", "a", 7), ("tell", "x"), ("give", "a")]
        for steps, told in enumerate([[], [], [], [7], [7]]):
            outcome = self.seen(("going", steps, steps, told), rows, steps=steps)
            self.assertEqual((outcome.opened, outcome.given), (min(steps, 1), [0] * (steps // 4)))
        self.seen(("going", 2, 10, []), [("go", 1), ("go", 2), ("go", 1)], steps=10)

    def test_no_steps_at_all(self):
        for rows in ([], [("end",)], [("tell", "x")], [("go", 0)]):
            self.seen(("going", 0, 0, []), rows, steps=0)

    def test_what_ends_with_the_last_of_its_steps_is_not_going(self):
        for word, place, rows in WRONG:
            self.seen((word, place, place + 1, []), rows, steps=place + 1)
            self.seen(("going", place, place, []), rows, steps=place)
        self.seen(("done", 0, 1, []), [], steps=1)
        self.seen(("done", 1, 2, []), [("go", 1), ("end",)], steps=2)
        self.seen(("going", 1, 1, []), [("go", 1), ("end",)], steps=1)

    def test_a_million_steps(self):
        rows = [("open", "a"), ("open", "b"), ("lay", "x", "b", 1), ("give", "a"), ("go", 0)]
        outcome = self.seen(("going", 0, 1000000, []), rows, steps=1000000)
        self.assertEqual((outcome.opened, len(outcome.given)), (400000, 400000))
        self.assertEqual((outcome.given[:4], outcome.given[-2:]), ([1, 0, 3, 2], [399999, 399998]))


class ForksTest(MachineCase):
    # Tells 1 for each choice that does not go on, and 2 for each that does.
    ROWS = [("open", "a"), ("lay", "n", "a", 1), ("lay", "y", "a", 2)]
    ROWS += [row for k in range(3) for row in (("fork", 6 + 4 * k), ("tell", "n"), ("go", 7 + 4 * k), ("tell", "y"))]
    ROWS += [("give", "a")]

    def test_nought_goes_on_and_all_else_goes_to_the_place(self):
        self.seen(("done", 16, 13, [1, 2, 1]), self.ROWS, [0, 1, 0])
        for number in (1, -1, 2, 10 ** 30, -10 ** 30):
            self.seen(("done", 16, 12, [2, 1, 2]), self.ROWS, [number, 0, number])

    def test_behind_the_last_input_all_are_nought(self):
        self.seen(("done", 16, 14, [1, 1, 1]), self.ROWS)
        self.seen(("done", 16, 13, [2, 1, 1]), self.ROWS, [1])
        self.seen(("done", 16, 12, [2, 2, 1]), self.ROWS, [1, 5])

    def test_inputs_that_no_fork_takes(self):
        self.seen(("done", 16, 11, [2, 2, 2]), self.ROWS, [1, 1, 1, 0, 9])
        self.seen(("done", 0, 1, []), [], [1, 2, 3])

    def test_a_go_takes_no_input(self):
        self.seen(("done", 3, 3, []), [("go", 1), ("fork", 3), ("tell", "x")], [1])

    def test_a_fork_to_the_next_row_takes_an_input(self):
        self.seen(("nothing", 2, 3, []), [("fork", 1), ("fork", 3), ("tell", "x")], [1, 0])
        self.seen(("done", 3, 3, []), [("fork", 1), ("fork", 3), ("tell", "x")], [0, 1])

    def test_a_fork_to_itself_and_one_to_the_end(self):
        self.seen(("done", 1, 5, []), [("fork", 0)], [1, 2, 3])
        self.seen(("going", 0, 3, []), [("fork", 0)], [1, 2, 3], steps=3)
        self.seen(("done", 1, 2, []), [("fork", 1)], [1])


class NumbersTest(MachineCase):
    def test_a_plot_that_is_opened_again_has_a_new_number(self):
        rows = [("open", "a"), ("open", "b"), ("give", "b"), ("open", "b"), ("open", "e"), ("give", "a"), ("open", "a"),
                ("give", "e"), ("give", "a")]
        outcome = self.seen(("done", 9, 10, []), rows)
        self.assertEqual((outcome.opened, outcome.given), (5, [1, 2, 0, 3, 4]))

    def test_a_loop_opens_anew_each_time_around(self):
        rows = [("open", "a"), ("open", "c"), ("open", "d"), ("open", "b"), ("give", "a"), ("fork", 0)]
        outcome = self.seen(("done", 6, 19, []), rows, [1, 1])
        self.assertEqual((outcome.opened, outcome.given), (12, [3, 2, 1, 0, 7, 6, 5, 4, 11, 10, 9, 8]))

    def test_the_one_that_was_opened_last_is_given_first(self):
        rows = [("open", "a"), ("open", "c"), ("open", "e"), ("open", "b"), ("open", "d"), ("give", "a"), ("give", "e")]
        self.assertEqual(run(PLOTS, rows, [], 99).given, [4, 3, 1, 0, 2])

    def test_sums_may_be_of_any_size(self):
        rows = [("open", "a"), ("lay", "x", "a", -10 ** 18), ("add", "x", "x"), ("fork", 2), ("tell", "x"),
                ("give", "a")]
        self.seen(("done", 6, 405, [-10 ** 18 * 2 ** 200]), rows, [1] * 199)


class RefusedTest(MachineCase):
    def test_bad_plots_come_first_then_bad_rows_then_bad_runs(self):
        self.assertEqual(self.refused(BadPlots, [("a", None), "b"], [("open",)], None, None).at, 1)
        self.assertIsNone(self.refused(BadPlots, None, None, None, None).at)
        self.assertEqual(self.refused(BadRows, PLOTS, [("end",), ("open", "z")], None, None).at, 1)
        self.assertIsNone(self.refused(BadRows, PLOTS, [("end",)] * 61, [True], -1).at)
        self.refused(BadRun, PLOTS, [("tell", "x")], None, 10)

    def test_inputs_are_a_list_of_whole_numbers(self):
        for inputs in (None, (), (1,), {}, {1: 1}, "", "01", b"01", 0, True, range(2)):
            self.refused(BadRun, PLOTS, [], inputs, 10)
        for other in (True, False, None, "", "0", 1.0, 0.0, (1,), [1]):
            self.refused(BadRun, PLOTS, [], [other], 10)
            self.refused(BadRun, PLOTS, [], [0, 1, other], 10)

    def test_steps_are_a_whole_number_up_to_a_million(self):
        for steps in (None, True, False, -1, 1000001, 10 ** 30, "1", "", 1.0, 0.0, [1], (1,)):
            self.refused(BadRun, PLOTS, [], [], steps)
        for steps in (0, 1, 999999, 1000000):
            run(PLOTS, [], [], steps)

    def test_they_are_looked_at_though_no_fork_takes_them(self):
        self.refused(BadRun, PLOTS, [("end",)], [None], 0)
        self.refused(BadRun, PLOTS, [("tell", "x")], [], -1)


class KeptTest(MachineCase):
    def test_nothing_handed_in_is_changed(self):
        plots, rows, inputs = copy.deepcopy(PLOTS), list(ForksTest.ROWS), [1, 0, 1, 1]
        for steps in (0, 5, 100):
            run(plots, rows, inputs, steps)
            self.assertEqual((plots, rows, inputs), (PLOTS, ForksTest.ROWS, [1, 0, 1, 1]))

    def test_runs_have_nothing_to_do_with_one_another(self):
        rows = [("open", "a"), ("lay", "x", "a", 3), ("tell", "x"), ("give", "a")]
        one, other = run(PLOTS, rows, [], 9), run(PLOTS, rows, [], 9)
        one.told.append(4)
        one.given.append(1)
        self.assertEqual((other.told, other.given), ([3], [0]))
        self.assertEqual(run(PLOTS, rows, [], 9).told, [3])

    def test_kinds_of_the_fields(self):
        outcome = run(PLOTS, [("open", "a"), ("fork", 0)], [0], 9)
        kinds = [type(field) for field in all_of(outcome)]
        self.assertEqual(kinds, [str, int, int, list, int, list])


class BothWaysTest(unittest.TestCase):
    def test_many_runs_come_to_the_same_both_ways(self):
        chance, ends = random.Random(7), {}
        for at in range(1500):
            some = some_program if at % 3 == 0 else some_good_program
            rows = some(chance, PLOTS, "abx", chance.randint(1, 12))
            inputs = [chance.choice((0, 0, 1, -3)) for _ in range(chance.randint(0, 6))]
            steps = chance.choice((3, 10, 60))
            plain = PlainRun(PLOTS, rows, inputs, steps)
            self.assertEqual(all_of(run(PLOTS, rows, inputs, steps)), plain.seen(), (rows, inputs, steps))
            ends[plain.end] = True
        self.assertEqual(sorted(ends), ["done", "going", "gone", "left", "not open", "nothing", "open already"])


if __name__ == "__main__":
    unittest.main()
