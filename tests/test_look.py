import copy
import random
import unittest

from plotfree.errors import BadPlots, BadRows
from plotfree.look import Wrong, look
from plotfree.machine import run
from tests.plain import PLOTS, fewest_steps, some_good_program, some_program
from tests.test_machine import WRONG

LETTERS = "abcdefghijkl"


class LookCase(unittest.TestCase):
    def fine(self, rows, plots=PLOTS):
        self.assertIsNone(look(plots, rows), rows)

    def wrong(self, word, place, steps, rows, choices=None, plots=PLOTS):
        found = look(plots, rows)
        self.assertIsInstance(found, Wrong, rows)
        self.assertEqual((found.word, found.row, found.steps), (word, place, steps), rows)
        if choices is not None:
            self.assertEqual(found.choices, choices)
        self.comes_true(found, plots, rows)

    def comes_true(self, found, plots, rows):
        """A run by the choices comes to just that, and each fork on the way takes one of them."""
        outcome = run(plots, rows, found.choices, 1000000)
        self.assertEqual((outcome.end, outcome.row, outcome.steps), (found.word, found.row, found.steps))
        self.assertEqual(forks_taken(rows, found), len(found.choices))
        for choice in found.choices:
            self.assertIs(type(choice), int)
            self.assertIn(choice, (0, 1))


def forks_taken(rows, found):
    place = taken = 0
    for _ in range(found.steps - 1):
        row = rows[place]
        place += 1
        if row[0] == "fork":
            taken += 1
        if row[0] == "go" or row[0] == "fork" and found.choices[taken - 1] == 1:
            place = row[1]
    return taken


class WordsTest(LookCase):
    def test_each_word(self):
        for word, place, rows in WRONG:
            self.wrong(word, place, place + 1, rows, [])

    def test_each_word_behind_a_fork(self):
        for word, place, rows in WRONG:
            behind = [("fork", 2), ("end",)] + rows
            self.wrong(word, place + 2, place + 2, behind, [1])
            self.wrong(word, place + 1, place + 2, [("fork", len(rows) + 2)] + rows + [("end",), ("end",)], [0])

    def test_no_row_goes_wrong(self):
        self.fine([])
        self.fine([], [])
        self.fine([("end",)], [])
        self.fine([("end",), ("tell", "x")])
        self.fine([("go", 2), ("tell", "x")])
        self.fine([("go", 0)], [])
        self.fine([("fork", 0), ("fork", 0)])
        self.fine([("open", "a"), ("go", 1)])
        self.fine([("open", "a"), ("lay", "x", "a", 1), ("give", "a"), ("same", "y", "x"), ("same", "x", "y")])

    def test_the_word_is_the_first_that_holds(self):
        self.wrong("nothing", 0, 1, [("copy", "x", "y", "a")])
        self.wrong("gone", 3, 4, [("open", "a"), ("lay", "y", "a", 1), ("give", "a"), ("copy", "x", "y", "a")])
        self.wrong("gone", 3, 4, [("open", "a"), ("lay", "y", "a", 1), ("give", "a"), ("add", "y", "z")])
        self.wrong("nothing", 3, 4, [("open", "a"), ("lay", "y", "a", 1), ("give", "a"), ("add", "z", "y")])

    def test_without_names_only_plots_go_wrong_and_without_plots_only_names(self):
        self.wrong("left", 1, 2, [("open", "a")], [], [("a", None)])
        self.wrong("nothing", 0, 1, [("tell", "a")], [], [])


class WaysTest(LookCase):
    def test_a_wrong_that_only_one_way_comes_to(self):
        rows = [("open", "a"), ("fork", 3), ("lay", "x", "a", 1), ("tell", "x"), ("give", "a")]
        self.wrong("nothing", 3, 3, rows, [1])
        rows = [("open", "a"), ("fork", 3), ("go", 4), ("lay", "x", "a", 1), ("tell", "x"), ("give", "a")]
        self.wrong("nothing", 4, 4, rows, [0])

    def test_the_shortest_of_several(self):
        # By 0 the way goes wrong behind five rows, by 1 behind four; then the other way about.
        long = [("open", "a"), ("lay", "x", "a", 1), ("tell", "x"), ("open", "e"), ("give", "d")]
        short = [("open", "e"), ("give", "e"), ("open", "b")]
        self.wrong("not open", 8, 4, [("fork", 6)] + long + short, [1])
        self.wrong("not open", 3, 4, [("fork", 4)] + short + long, [0])

    def test_the_shortest_is_no_first_row_and_no_fewest_choices(self):
        rows = [("fork", 4), ("go", 2), ("go", 3), ("tell", "x"), ("fork", 6), ("end",), ("tell", "y")]
        self.wrong("nothing", 6, 3, rows, [1, 1])

    def test_a_fork_with_both_ways_to_one_place(self):
        rows = [("fork", 1), ("fork", 3), ("end",), ("fork", 4), ("tell", "x")]
        self.wrong("nothing", 4, 4, rows)
        self.assertEqual(look(PLOTS, rows).choices[1], 1)

    def test_only_forks_on_the_way_take_a_choice(self):
        rows = [("go", 3), ("fork", 0), ("end",), ("fork", 5), ("end",), ("give", "a"), ("fork", 0)]
        self.wrong("not open", 5, 3, rows, [1])

    def test_ways_that_meet_again(self):
        rows = [("open", "a"), ("fork", 4), ("lay", "x", "a", 1), ("go", 5), ("lay", "x", "a", 2), ("tell", "x"),
                ("give", "a")]
        self.fine(rows)
        rows = [("fork", 4), ("open", "a"), ("give", "a"), ("go", 5), ("open", "e"), ("give", "e")]
        self.wrong("not open", 5, 5, rows, [0])
        self.wrong("not open", 2, 2, [("fork", 2), ("open", "a"), ("give", "a")], [1])

    def test_two_ways_each_fine_but_not_together(self):
        # x holds something where the first choice is 0, and is told where the second one is 1.
        rows = [("open", "a"), ("fork", 3), ("lay", "x", "a", 1), ("fork", 6), ("give", "a"), ("end",), ("tell", "x"),
                ("give", "a")]
        self.wrong("nothing", 6, 4, rows, [1, 1])

    def test_what_is_gone_on_one_way(self):
        rows = [("open", "a"), ("open", "c"), ("lay", "x", "c", 1), ("same", "y", "x"), ("fork", 7), ("give", "c"),
                ("open", "c"), ("tell", "y"), ("give", "a")]
        self.wrong("gone", 7, 8, rows, [0])
        self.fine(rows[:7] + [("same", "y", "x")] + rows[8:])

    def test_what_is_given_back_with_an_outer_plot(self):
        rows = [("open", "a"), ("open", "c"), ("fork", 4), ("open", "d"), ("give", "a")]
        self.fine(rows)
        self.fine(rows + [("open", "a"), ("open", "c"), ("open", "d"), ("give", "a")])
        self.wrong("not open", 5, 5, rows + [("open", "d")], [1])


class LoopsTest(LookCase):
    def test_a_loop_that_gives_a_plot_back_and_opens_it_again(self):
        rows = [("open", "a"), ("open", "b"), ("lay", "x", "b", 1), ("tell", "x"), ("give", "b"), ("fork", 1),
                ("give", "a")]
        self.fine(rows)
        self.fine([("open", "a"), ("lay", "x", "a", 1), ("tell", "x"), ("give", "a"), ("go", 0)])

    def test_a_loop_that_opens_twice_what_it_gives_back_not_always(self):
        rows = [("open", "a"), ("fork", 3), ("give", "a"), ("fork", 0)]
        self.wrong("left", 4, 4, rows, [1, 0])
        self.wrong("open already", 0, 4, rows + [("go", 4)], [1, 1])

    def test_the_first_time_around_is_fine_and_the_second_one_not(self):
        rows = [("open", "a"), ("lay", "y", "a", 1), ("lay", "x", "a", 1), ("open", "b"), ("add", "y", "x"),
                ("lay", "x", "b", 2), ("give", "b"), ("fork", 3), ("give", "a")]
        self.wrong("gone", 4, 10, rows, [1])

    def test_as_many_times_around_as_names_hand_on_what_is_gone(self):
        names = [f"n{c}" for c in LETTERS + "mnopqrst"]
        start = [("open", "a"), ("lay", names[0], "a", 1)] + [("same", name, names[0]) for name in names[1:]]
        start += [("open", "b"), ("lay", names[0], "b", 1), ("give", "b")]
        shift = [("same", ahead, name) for ahead, name in zip(reversed(names), list(reversed(names))[1:])]
        rows = start + shift + [("fork", len(start)), ("tell", names[-1]), ("give", "a")]
        self.wrong("gone", len(rows) - 2, len(start) + 19 * (len(shift) + 1) + 1, rows, [1] * 18 + [0])

    def test_loops_without_an_end(self):
        self.fine([("open", "a"), ("fork", 1), ("fork", 1), ("go", 1)])
        self.wrong("left", 3, 3, [("open", "a"), ("fork", 3), ("go", 1)], [1])


class LargeTest(LookCase):
    FLAT = [(c, None) for c in LETTERS]
    DEEP = list(zip(LETTERS, [None] + list(LETTERS[:-1])))

    def test_many_forks_one_behind_the_other(self):
        self.fine([("fork", k + 1) for k in range(60)])
        self.fine([("fork", 60)] * 60)
        rows = [("fork", k + 1) for k in range(59)] + [("tell", "x")]
        self.wrong("nothing", 59, 60, rows)
        self.assertEqual(len(look(PLOTS, rows).choices), 59)

    def test_a_long_way_with_just_one_good_choice_at_each_fork(self):
        for good in (0, 1):
            rows = []
            for k in range(28):
                rows += [("fork", 2 * k + 2), ("end",)] if good else [("fork", 60), ("go", 2 * k + 2)]
            rows += [("tell", "x")]
            rows += [("end",)] * (60 - len(rows))
            self.wrong("nothing", 56, 57 if good == 0 else 29, rows, [good] * 28)

    def test_each_choice_opens_a_plot_or_not(self):
        star = [("a", None)] + [(c, "a") for c in LETTERS[1:]]
        rows = [("open", "a")]
        for c in LETTERS[1:]:
            rows += [("fork", len(rows) + 3), ("open", c), ("lay", c, c, 1)]
        self.fine(rows + [("give", "a"), ("fork", 0)], star)
        self.wrong("nothing", 34, 13, rows + [("tell", "f"), ("give", "a")], [1] * 11, star)
        self.wrong("left", 34, 13, rows, [1] * 11, star)

    def test_twelve_plots_and_as_many_loops(self):
        rows = [row for k, c in enumerate(LETTERS) for row in
                (("open", c), ("lay", "x", c, k), ("give", c), ("fork", 4 * k))]
        self.fine(rows, self.FLAT)
        self.fine(rows + [("fork", 0)] * 12, self.FLAT)
        self.wrong("gone", 48, 49, rows + [("tell", "x")], [0] * 12, self.FLAT)

    def test_names_of_their_own_in_each_row(self):
        names = [f"{one}{other}" for one in "abcdefghij" for other in LETTERS]
        self.wrong("nothing", 0, 1, [("add", names[2 * k], names[2 * k + 1]) for k in range(60)], [])
        rows = [("open", c) for c in LETTERS] + [("lay", names[0], "l", 1)]
        rows += [("same", names[k + 1], names[k]) for k in range(44)]
        rows += [("give", "a"), ("fork", 0)]
        self.fine(rows, self.DEEP)
        self.wrong("gone", 58, 59, rows[:58] + [("tell", names[40])], [], self.DEEP)

    def test_many_ways_to_many_facts(self):
        # Each name may be handed on to each other one, from any plot.
        names = "abcdefghij"
        rows = [("open", c) for c in LETTERS[:10]] + [("lay", name, name, 1) for name in names]
        for k in range(18):
            rows += [("fork", len(rows) + 2), ("same", names[(k + 1) % 10], names[k * 3 % 10])]
        rows += [("fork", 20)]
        rows += [("give", c) for c in LETTERS[:3]]
        self.assertEqual(len(rows), 60)
        found = look(self.FLAT, rows)
        self.comes_true(found, self.FLAT, rows)
        self.assertEqual((found.word, found.row), ("left", 60))


class RefusedTest(LookCase):
    def test_bad_plots_come_first_then_bad_rows(self):
        with self.assertRaises(BadPlots) as caught:
            look([("a", None), ("b", "c")], None)
        self.assertEqual(caught.exception.at, 1)
        with self.assertRaises(BadRows) as caught:
            look(PLOTS, [("tell", "x"), ("go", 4)])
        self.assertEqual(caught.exception.at, 1)
        for plots, rows, refusal in ((None, [], BadPlots), (nested(13), [], BadPlots), ([], None, BadRows),
                                     ([], [("end",)] * 61, BadRows), ((), [], BadPlots)):
            with self.assertRaises(refusal) as caught:
                look(plots, rows)
            self.assertIsNone(caught.exception.at)

    def test_nothing_handed_in_is_changed(self):
        for word, place, rows in WRONG:
            plots, others = copy.deepcopy(PLOTS), copy.deepcopy(rows)
            look(plots, others)
            self.assertEqual((plots, others), (PLOTS, rows))

    def test_kinds_of_the_fields(self):
        found = look(PLOTS, [("fork", 0), ("tell", "x")])
        self.assertEqual([type(field) for field in (found.choices, found.row, found.word, found.steps)],
                         [list, int, str, int])


def nested(many):
    names = "abcdefghijklmnop"[:many]
    return list(zip(names, [None] + list(names[:-1])))


class BothWaysTest(LookCase):
    def test_many_programs_are_told_the_same_by_trying_all_that_may_stand(self):
        chance, words, fine = random.Random(13), {}, 0
        for at in range(900):
            plots = (PLOTS[:2], PLOTS[:1] + PLOTS[4:], PLOTS)[at % 3]
            some = some_program if at % 4 == 0 else some_good_program
            rows = some(chance, plots, "xy", chance.randint(1, 9))
            steps = fewest_steps(plots, rows, "xy")
            found = look(plots, rows)
            self.assertEqual(steps, found and found.steps, rows)
            if found is None:
                fine += 1
            else:
                words[found.word] = True
                self.comes_true(found, plots, rows)
        self.assertGreater(fine, 100)
        self.assertEqual(sorted(words), ["gone", "left", "not open", "nothing", "open already"])


if __name__ == "__main__":
    unittest.main()
