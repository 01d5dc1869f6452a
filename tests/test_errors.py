import unittest

from plotfree.errors import BadPlots, BadRows, BadRun, PlotError


class ErrorsTest(unittest.TestCase):
    def test_every_refusal_is_a_plot_error_and_that_a_value_error(self):
        self.assertTrue(issubclass(PlotError, ValueError))
        for refusal in (BadPlots, BadRows, BadRun):
            self.assertTrue(issubclass(refusal, PlotError), refusal)

    def test_no_refusal_is_another_one(self):
        refusals = (BadPlots, BadRows, BadRun)
        for one in refusals:
            for other in refusals:
                self.assertEqual(issubclass(one, other), one is other)

    def test_bad_plots_and_bad_rows_keep_the_place(self):
        for refusal in (BadPlots, BadRows):
            self.assertEqual(refusal(0).at, 0)
            self.assertEqual(refusal(7).at, 7)
            self.assertIsNone(refusal(None).at)

    def test_bad_run_is_raised_with_words(self):
        with self.assertRaises(PlotError):
            raise BadRun("no steps")


if __name__ == "__main__":
    unittest.main()
