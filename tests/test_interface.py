"""The interface: the form of what is handed in and given back, and what is kept between two times."""

import contextlib
import io
import unittest

from heartpacer.pacer import answers
from tests.helper import a, begin, run, state, v


def joined(*calls):
    return [number for call in calls for number in call]


EVERY_CALL = joined(
    begin(), state(), run(900, [a(300), v(400)]), run(5, [a(6)]), run(5, [a(5)], most=0),
    begin(way=3), begin(way=1), run(1000), state(),
)


def refuse(self, *given, **named):
    raise AssertionError("what is handed in was to be changed")


class Guarded(list):
    """A list that tells of each try to change it."""

    __setitem__ = __delitem__ = __iadd__ = __imul__ = refuse
    append = extend = insert = pop = remove = clear = sort = reverse = refuse


class Form(unittest.TestCase):
    def test_each_answer_behind_its_length(self):
        self.assertEqual(answers([0, 7, 2, 1000, 500, 150, 250, 200, 400]), [1, 0])
        self.assertEqual(answers([0, 7, 2, 1000, 500, 150, 250, 200, 400, 2]), [1, 0, 5, 0, 0, 0, 0, 0])
        self.assertEqual(
            answers([0, 7, 2, 1000, 500, 150, 250, 200, 400, 1, 300, 9, 2, 600, 601, 2]),
            [1, 0, 3, 2, 2402, 2403, 5, 0, 0, 0, 0, 0],
        )

    def test_every_call_and_refusal(self):
        wanted = [1, 0, 5, 0, 0, 0, 0, 0, 3, 2, 2402, 3203, 1, -2, 1, -3, 1, -2, 1, 0, 2, 1, 8000, 5, 0, 1000, 0, 0, 0]
        self.assertEqual(answers(list(EVERY_CALL)), wanted)

    def test_a_refused_run_is_read_to_its_end(self):
        # Its beats look like calls, and must not be taken for any.
        found = answers(joined(begin(), run(-1, [2, 2, 2]), state()))
        self.assertEqual(found, [1, 0, 1, -2, 5, 0, 0, 0, 0, 0])

    def test_whole_numbers_in_a_list(self):
        found = answers(joined(begin(), run(900), state(), run(100), state()))
        self.assertIs(found.__class__, list)
        self.assertEqual({number.__class__ for number in found}, {int})

    def test_the_package(self):
        import heartpacer.pacer
        self.assertIs(heartpacer.pacer.answers, answers)
        self.assertEqual(heartpacer.pacer.answers(calls=begin()), [1, 0])


class Unchanged(unittest.TestCase):
    def test_what_is_handed_in(self):
        handed = list(EVERY_CALL)
        answers(handed)
        self.assertEqual(handed, EVERY_CALL)

    def test_not_for_a_while_either(self):
        self.assertEqual(answers(Guarded(EVERY_CALL)), answers(list(EVERY_CALL)))

    def test_a_second_time_gives_the_same(self):
        handed = list(EVERY_CALL)
        first = answers(handed)
        kept = list(first)
        answers(joined(begin(way=0), run(12345, [v(700)]), state()))
        second = answers(handed)
        self.assertEqual(second, kept)
        self.assertIsNot(second, first)

    def test_what_was_given_back_may_be_changed(self):
        first = answers(list(EVERY_CALL))
        kept = list(first)
        first.clear()
        self.assertEqual(answers(list(EVERY_CALL)), kept)

    def test_nothing_is_printed(self):
        out, err = io.StringIO(), io.StringIO()
        with contextlib.redirect_stdout(out), contextlib.redirect_stderr(err):
            answers(list(EVERY_CALL))
        self.assertEqual(out.getvalue() + err.getvalue(), "")


class Greatest(unittest.TestCase):
    def test_a_thousand_calls(self):
        handed = joined(begin(), *[state()] * 999)
        self.assertEqual(answers(handed), [1, 0] + [5, 0, 0, 0, 0, 0] * 999)

    def test_a_thousand_long_runs(self):
        handed = joined(begin(way=0, low=2000), *[run(1000000)] * 999)
        found = answers(handed)
        one = [501, 500] + [8 * 2000 * i + 1 for i in range(1, 501)]
        self.assertEqual(found, [1, 0] + one * 999)

    def test_thirty_thousand_numbers(self):
        handed = joined(begin(), *[run(1, [a(1)] * 4096)] * 7, run(1, [v(1)] * 1287))
        self.assertEqual(len(handed), 30000)
        one = [4097, 4096] + [8 + 4] * 4096
        self.assertEqual(answers(handed), [1, 0] + one * 7 + [1288, 1287] + [8 + 5] * 1287)


if __name__ == "__main__":
    unittest.main()
