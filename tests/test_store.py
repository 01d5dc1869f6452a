import copy
import random
import unittest

from plotfree.rows import need
from plotfree.store import Store
from tests.plain import PLOTS, Plain, some_row


class StoreCase(unittest.TestCase):
    def done(self, *rows, plots=PLOTS):
        store = Store(plots)
        self.do_all(store, *rows)
        return store

    def do_all(self, store, *rows):
        for row in rows:
            self.assertEqual(store.do(row), "", row)

    def wrong(self, store, word, row):
        before = seen(store)
        self.assertEqual(store.do(row), word, row)
        self.assertEqual(seen(store), before, row)


def seen(store):
    """All that can be told of a store by its fields and by what one more row would do."""
    probes = [(word, plot) for word in ("open", "give") for plot, outer in PLOTS]
    probes += [("tell", name) for name in "abexyzwvgnm"] + [("add", "x", "y"), ("end",)]
    told = []
    for row in probes:
        other = copy.deepcopy(store)
        told.append((row, other.do(row), other.told, other.opened, other.given))
    return told


class FieldsTest(StoreCase):
    def test_at_first(self):
        store = Store(PLOTS)
        self.assertEqual((store.told, store.opened, store.given), ([], 0, []))
        self.assertEqual(Store([]).do(("end",)), "")

    def test_at_first_all_plots_are_shut(self):
        for plot, outer in PLOTS:
            self.wrong(Store(PLOTS), "not open", ("give", plot))
            self.wrong(Store(PLOTS), "not open", ("lay", "x", plot, 1))

    def test_at_first_names_hold_nothing(self):
        for name in ("x", "a", "abcdefgh"):
            self.wrong(Store(PLOTS), "nothing", ("tell", name))

    def test_stores_have_nothing_to_do_with_one_another(self):
        one, other = Store(PLOTS), Store(PLOTS)
        self.do_all(one, ("open", "a"), ("lay", "x", "a", 4), ("tell", "x"))
        self.wrong(other, "not open", ("give", "a"))
        self.wrong(other, "nothing", ("tell", "x"))
        self.do_all(other, ("open", "e"), ("lay", "x", "e", 9), ("give", "e"), ("open", "a"))
        self.do_all(one, ("tell", "x"), ("give", "a"))
        self.assertEqual((one.told, one.opened, one.given), ([4, 4], 1, [0]))
        self.assertEqual((other.told, other.opened, other.given), ([], 2, [0]))

    def test_the_plots_stay_as_they_were_and_are_not_looked_at_again(self):
        plots = copy.deepcopy(PLOTS)
        store = self.done(("open", "a"), ("open", "c"), ("open", "d"), ("give", "c"), plots=plots)
        self.assertEqual(plots, PLOTS)
        plots.clear()
        self.do_all(store, ("open", "c"), ("open", "d"), ("open", "e"), ("give", "a"))
        self.assertEqual(store.given, [2, 1, 4, 3, 0])

    def test_rows_stay_as_they_were(self):
        row = ("lay", "x", "a", 1)
        self.done(("open", "a"), row, ("add", "x", "x"))
        self.assertEqual(row, ("lay", "x", "a", 1))


class OpenTest(StoreCase):
    def test_open_already(self):
        store = self.done(("open", "a"))
        self.wrong(store, "open already", ("open", "a"))
        self.do_all(store, ("open", "b"))
        self.wrong(store, "open already", ("open", "b"))
        self.assertEqual(store.opened, 2)

    def test_not_open_where_the_outer_plot_is_shut(self):
        store = Store(PLOTS)
        self.wrong(store, "not open", ("open", "b"))
        self.do_all(store, ("open", "e"))
        self.wrong(store, "not open", ("open", "b"))
        self.do_all(store, ("open", "a"))
        self.wrong(store, "not open", ("open", "d"))
        self.do_all(store, ("open", "c"), ("open", "d"), ("open", "b"))
        self.assertEqual(store.opened, 5)

    def test_the_outer_plot_was_given_back(self):
        store = self.done(("open", "a"), ("open", "b"), ("give", "a"))
        self.wrong(store, "not open", ("open", "b"))
        self.do_all(store, ("open", "a"), ("open", "b"))

    def test_an_opened_plot_is_numbered_anew(self):
        store = self.done(("open", "a"), ("give", "a"), ("open", "e"), ("open", "a"), ("give", "a"), ("give", "e"))
        self.assertEqual((store.opened, store.given), (3, [0, 2, 1]))


class LayTest(StoreCase):
    def test_not_open(self):
        store = self.done(("open", "a"), ("open", "b"), ("lay", "x", "a", 5), ("give", "b"))
        for plot in ("b", "c", "d", "e"):
            self.wrong(store, "not open", ("lay", "x", plot, 6))
        self.do_all(store, ("tell", "x"))
        self.assertEqual(store.told, [5])

    def test_the_name_holds_the_new_value(self):
        store = self.done(("open", "a"), ("open", "e"), ("lay", "x", "a", 5), ("lay", "x", "e", -7), ("give", "a"),
                          ("tell", "x"))
        self.assertEqual(store.told, [-7])

    def test_a_new_value_is_not_the_old_one(self):
        store = self.done(("open", "a"), ("lay", "x", "a", 5), ("same", "y", "x"), ("lay", "x", "a", 8),
                          ("tell", "y"), ("tell", "x"))
        self.assertEqual(store.told, [5, 8])

    def test_names_of_plots_and_of_values_have_nothing_to_do_with_one_another(self):
        store = self.done(("open", "a"), ("lay", "a", "a", 3), ("lay", "e", "a", 4), ("tell", "a"), ("tell", "e"))
        self.assertEqual(store.told, [3, 4])
        self.wrong(store, "not open", ("give", "e"))
        self.wrong(store, "nothing", ("tell", "b"))

    def test_numbers_as_they_are(self):
        most = 10 ** 18
        store = self.done(("open", "a"), ("lay", "x", "a", most), ("tell", "x"), ("lay", "x", "a", -most),
                          ("tell", "x"), ("lay", "x", "a", 0), ("tell", "x"))
        self.assertEqual(store.told, [most, -most, 0])


class CopyTest(StoreCase):
    def test_a_copy_has_its_own_value(self):
        store = self.done(("open", "a"), ("open", "e"), ("lay", "x", "a", 5), ("copy", "y", "x", "e"),
                          ("add", "x", "x"), ("tell", "y"), ("tell", "x"), ("add", "y", "x"), ("tell", "y"),
                          ("tell", "x"), ("give", "a"), ("tell", "y"))
        self.assertEqual(store.told, [5, 10, 15, 10, 15])
        self.wrong(store, "gone", ("tell", "x"))

    def test_a_copy_is_gone_with_its_own_plot(self):
        store = self.done(("open", "a"), ("open", "e"), ("lay", "x", "a", 5), ("copy", "y", "x", "e"),
                          ("give", "e"), ("tell", "x"))
        self.wrong(store, "gone", ("tell", "y"))

    def test_a_name_may_be_copied_to_itself(self):
        store = self.done(("open", "a"), ("open", "e"), ("lay", "x", "a", 5), ("same", "y", "x"),
                          ("copy", "x", "x", "e"), ("add", "x", "x"), ("tell", "x"), ("tell", "y"), ("give", "a"),
                          ("tell", "x"))
        self.assertEqual(store.told, [10, 5, 10])

    def test_the_words_in_their_order(self):
        store = Store(PLOTS)
        self.wrong(store, "nothing", ("copy", "y", "x", "e"))
        self.do_all(store, ("open", "a"))
        self.wrong(store, "nothing", ("copy", "y", "x", "a"))
        self.do_all(store, ("lay", "x", "a", 1))
        self.wrong(store, "not open", ("copy", "y", "x", "e"))
        self.do_all(store, ("give", "a"))
        self.wrong(store, "gone", ("copy", "y", "x", "e"))
        self.wrong(store, "gone", ("copy", "y", "x", "a"))
        self.do_all(store, ("open", "e"))
        self.wrong(store, "gone", ("copy", "y", "x", "e"))
        self.wrong(store, "nothing", ("tell", "y"))


class SameTest(StoreCase):
    def test_nothing(self):
        store = self.done(("open", "a"), ("lay", "y", "a", 2))
        self.wrong(store, "nothing", ("same", "y", "x"))
        self.wrong(store, "nothing", ("same", "x", "x"))
        self.do_all(store, ("tell", "y"))
        self.assertEqual(store.told, [2])

    def test_names_share_a_value(self):
        store = self.done(("open", "a"), ("lay", "x", "a", 5), ("same", "y", "x"), ("same", "z", "y"),
                          ("lay", "w", "a", 2), ("add", "y", "w"), ("tell", "x"), ("tell", "y"), ("tell", "z"),
                          ("add", "x", "z"), ("tell", "y"))
        self.assertEqual(store.told, [7, 7, 7, 14])

    def test_a_value_that_is_gone_may_be_held_by_more_names(self):
        store = self.done(("open", "a"), ("lay", "x", "a", 5), ("give", "a"), ("same", "y", "x"))
        self.wrong(store, "gone", ("tell", "y"))
        self.do_all(store, ("open", "a"), ("same", "z", "y"), ("same", "x", "x"))
        for name in ("x", "y", "z"):
            self.wrong(store, "gone", ("tell", name))

    def test_a_shared_value_is_gone_for_all_who_hold_it(self):
        store = self.done(("open", "a"), ("open", "b"), ("lay", "x", "b", 5), ("same", "y", "x"), ("give", "b"))
        self.wrong(store, "gone", ("tell", "x"))
        self.wrong(store, "gone", ("tell", "y"))


class AddTest(StoreCase):
    def test_the_value_of_the_name_grows(self):
        store = self.done(("open", "a"), ("open", "e"), ("lay", "x", "a", 5), ("lay", "y", "e", -8),
                          ("add", "x", "y"), ("tell", "x"), ("tell", "y"), ("add", "x", "x"), ("tell", "x"))
        self.assertEqual(store.told, [-3, -8, -6])

    def test_the_value_stays_on_its_plot(self):
        store = self.done(("open", "a"), ("open", "e"), ("lay", "x", "a", 5), ("lay", "y", "e", 1),
                          ("add", "x", "y"), ("give", "e"), ("tell", "x"), ("give", "a"))
        self.wrong(store, "gone", ("tell", "x"))

    def test_sums_may_be_of_any_size(self):
        rows = [("open", "a"), ("lay", "x", "a", 10 ** 18)] + [("add", "x", "x")] * 200 + [("tell", "x")]
        self.assertEqual(self.done(*rows).told, [10 ** 18 * 2 ** 200])

    def test_the_words_in_their_order(self):
        # x holds a value, g one that is gone, n and m nothing.
        store = self.done(("open", "a"), ("open", "e"), ("lay", "x", "a", 1), ("lay", "g", "e", 2),
                          ("give", "e"))
        self.wrong(store, "nothing", ("add", "n", "m"))
        self.wrong(store, "nothing", ("add", "n", "g"))
        self.wrong(store, "nothing", ("add", "n", "x"))
        self.wrong(store, "gone", ("add", "g", "n"))
        self.wrong(store, "gone", ("add", "g", "g"))
        self.wrong(store, "gone", ("add", "g", "x"))
        self.wrong(store, "nothing", ("add", "x", "n"))
        self.wrong(store, "gone", ("add", "x", "g"))
        self.do_all(store, ("tell", "x"))
        self.assertEqual(store.told, [1])


class TellTest(StoreCase):
    def test_nothing_and_gone(self):
        store = self.done(("open", "a"))
        self.wrong(store, "nothing", ("tell", "x"))
        self.do_all(store, ("lay", "x", "a", 0), ("tell", "x"), ("give", "a"))
        self.wrong(store, "gone", ("tell", "x"))
        self.assertEqual(store.told, [0])

    def test_gone_stays_gone_when_the_plot_is_opened_again(self):
        store = self.done(("open", "a"), ("lay", "x", "a", 1), ("give", "a"), ("open", "a"), ("lay", "y", "a", 2),
                          ("tell", "y"))
        for row in (("tell", "x"), ("add", "x", "y"), ("add", "y", "x"), ("copy", "z", "x", "a")):
            self.wrong(store, "gone", row)
        self.do_all(store, ("give", "a"), ("open", "a"))
        self.wrong(store, "gone", ("tell", "x"))
        self.wrong(store, "gone", ("tell", "y"))

    def test_a_name_that_held_what_is_gone_may_be_given_another_value(self):
        store = self.done(("open", "a"), ("open", "e"), ("lay", "x", "a", 1), ("same", "y", "x"),
                          ("lay", "z", "e", 7), ("give", "a"), ("copy", "x", "z", "e"), ("tell", "x"),
                          ("lay", "x", "e", 8), ("tell", "x"), ("same", "x", "z"), ("tell", "x"))
        self.assertEqual(store.told, [7, 8, 7])
        self.wrong(store, "gone", ("tell", "y"))


class GiveTest(StoreCase):
    def test_not_open(self):
        store = self.done(("open", "a"), ("open", "e"), ("give", "e"))
        self.wrong(store, "not open", ("give", "e"))
        self.wrong(store, "not open", ("give", "b"))
        self.assertEqual(store.given, [1])

    def test_what_lies_within_goes_too_in_however_many_steps(self):
        store = self.done(("open", "a"), ("open", "c"), ("open", "d"), ("lay", "x", "d", 1), ("lay", "y", "c", 2),
                          ("lay", "z", "a", 3), ("give", "a"))
        self.assertEqual(store.given, [2, 1, 0])
        for name in ("x", "y", "z"):
            self.wrong(store, "gone", ("tell", name))
        for plot in ("a", "c", "d"):
            self.wrong(store, "not open", ("give", plot))
        self.do_all(store, ("end",))

    def test_what_does_not_lie_within_stays(self):
        store = self.done(("open", "e"), ("open", "a"), ("open", "b"), ("open", "c"), ("open", "d"),
                          ("lay", "v", "a", 1), ("lay", "w", "b", 2), ("lay", "x", "e", 3), ("lay", "y", "d", 4),
                          ("give", "c"), ("tell", "v"), ("tell", "w"), ("tell", "x"))
        self.assertEqual((store.given, store.told), ([4, 3], [1, 2, 3]))
        self.wrong(store, "gone", ("tell", "y"))
        self.do_all(store, ("give", "a"), ("tell", "x"), ("give", "e"))
        self.assertEqual(store.given, [4, 3, 2, 1, 0])

    def test_the_one_that_was_opened_last_comes_first(self):
        store = self.done(("open", "a"), ("open", "c"), ("open", "e"), ("open", "b"), ("open", "d"), ("give", "a"))
        self.assertEqual(store.given, [4, 3, 1, 0])

    def test_the_order_is_that_of_the_latest_openings(self):
        store = self.done(("open", "a"), ("open", "b"), ("open", "c"), ("give", "b"), ("open", "b"), ("give", "a"))
        self.assertEqual((store.given, store.opened), ([1, 3, 2, 0], 4))

    def test_numbers_go_on_as_plots_are_opened(self):
        store = Store(PLOTS)
        for _ in range(5):
            self.do_all(store, ("open", "a"), ("open", "b"), ("give", "a"))
        self.assertEqual((store.opened, store.given), (10, [1, 0, 3, 2, 5, 4, 7, 6, 9, 8]))

    def test_twelve_and_more_plots_within_one_another(self):
        for many in (12, 40):
            names = [f"p{k}" for k in range(many)]
            plots = list(zip(names, [None] + names[:-1]))
            store = self.done(*[("open", name) for name in names], plots=plots)
            self.do_all(store, ("give", names[5]), ("give", names[0]))
            self.assertEqual(store.given, list(reversed(range(5, many))) + [4, 3, 2, 1, 0])


class EndTest(StoreCase):
    def test_left(self):
        for rows in ([("open", "a")], [("open", "e")], [("open", "a"), ("open", "b"), ("give", "b")]):
            store = self.done(*rows)
            self.wrong(store, "left", ("end",))

    def test_an_end_that_is_not_wrong_changes_nothing(self):
        store = self.done(("open", "a"), ("lay", "x", "a", 3), ("tell", "x"), ("give", "a"), ("end",))
        self.assertEqual((store.told, store.opened, store.given), ([3], 1, [0]))
        self.wrong(store, "gone", ("tell", "x"))
        self.do_all(store, ("end",), ("open", "a"))
        self.wrong(store, "left", ("end",))


class BothWaysTest(unittest.TestCase):
    def test_many_rows_do_the_same_both_ways(self):
        chance = random.Random(5)
        words = {}
        for _ in range(150):
            store, plain = Store(PLOTS), Plain(PLOTS)
            for _ in range(120):
                row = some_row(chance)
                need(PLOTS, [row])
                word = plain.do(row)
                self.assertEqual(store.do(row), word, row)
                self.assertEqual((store.told, store.opened, store.given), (plain.told, plain.opened, plain.given))
                words[row[0], word] = True
        self.assertEqual(len(words), 8 + 2 + 1 + 3 + 1 + 2 + 2 + 1 + 1)


if __name__ == "__main__":
    unittest.main()
