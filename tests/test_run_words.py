"""Promise 2: what run is handed, what it refuses, and the form of its answer."""

import unittest

from tests.helper import a, ask, begin, run, state, v


class Refused(unittest.TestCase):
    def check(self, *calls, first=(), wanted=-2):
        """Each of the calls is refused, and what comes later is as if it hadn't been there."""
        later = [state(), run(2500, [a(700), v(900)]), state()]
        for call in calls:
            with self.subTest(call=call[:6]):
                found = ask(begin(), *first, call, *later)
                at = 1 + len(first)
                self.assertEqual(found[at], [wanted])
                self.assertEqual(found[at + 1:], ask(begin(), *first, *later)[at:])

    def test_n(self):
        self.check(run(-1), run(1000001), run(-2147483648), run(2147483647))
        self.assertEqual(ask(begin(), run(0)), [[0], [0]])
        self.assertNotEqual(ask(begin(), run(1000000))[1], [-2])

    def test_most(self):
        for most in (-1, 65537, -2147483648, 2147483647):
            self.check(run(10, most=most))
        for most in (0, 1, 65536):
            self.assertEqual(ask(begin(), run(10, most=most)), [[0], [0]])

    def test_m(self):
        self.check(run(1, [a(1)] * 4097))
        self.check([1, 10, 5, -1], [1, 10, 5, -4], [1, 10, 5, -2147483648])
        found = ask(begin(), run(1, [a(1)] * 4096))[1]
        self.assertEqual(found, [4096] + [8 + 4] * 4096)

    def test_beats_at_0(self):
        self.check(run(10, [0]), run(10, [1]), run(10, [0, a(5)]), run(0, [0]), run(0, [1]))

    def test_beats_above_n(self):
        self.check(run(10, [a(11)]), run(10, [v(11)]), run(10, [a(3), v(11)]))
        self.check(run(10, [4294967295]), run(10, [4294967294]), run(1000000, [a(1000001)]))
        self.check(run(0, [a(1)]), run(0, [v(1)]))

    def test_beats_up_to_n(self):
        self.assertEqual(ask(begin(), run(10, [a(10), v(10)]))[1], [2, 84, 85])
        self.assertEqual(ask(begin(), run(1, [v(1), a(1)]))[1], [2, 13, 12])
        self.assertEqual(ask(begin(), run(1000000, [v(1000000)]))[1][-1] // 8, 1000000)

    def test_falling_beats(self):
        self.check(run(10, [a(5), a(4)]), run(10, [a(5), v(4)]), run(10, [v(5), a(4)]))
        self.check(run(10, [a(1), a(2), a(3), a(2)]), run(10, [a(5), a(4), a(6)]))

    def test_beats_of_one_millisecond_do_not_fall(self):
        # The ventricle's number is the greater one: only the milliseconds are compared.
        self.assertEqual(ask(begin(), run(10, [v(5), a(5)]))[1], [2, 45, 44])

    def test_after_time_has_gone_by(self):
        for first in ([run(900)], [run(400, [a(300)])], [run(400, [v(300)])]):
            self.check(run(-1), run(5, most=-1), run(5, [a(6)]), first=first)

    def test_more_than_most(self):
        beats = [a(300), v(350), a(400)]
        self.check(run(500, beats, most=2), run(500, beats, most=0), wanted=-3)
        self.assertEqual(ask(begin(), run(500, beats, most=3))[1][0], 3)
        self.assertEqual(ask(begin(), run(500, beats, most=4))[1][0], 3)

    def test_more_paces_than_most(self):
        self.check(run(850, most=0), run(1000, most=1), run(1000000, most=1999), wanted=-3)
        self.assertEqual(ask(begin(), run(849, most=0))[1], [0])
        self.assertEqual(ask(begin(), run(850, most=1))[1], [1, 8 * 850])
        self.assertEqual(ask(begin(), run(1000, most=2))[1], [2, 8 * 850, 8 * 1000 + 1])
        self.assertEqual(ask(begin(), run(1000000, most=2000))[1][0], 2000)

    def test_passed_over_beats_count(self):
        self.check(run(5, [a(1)], most=0), run(5, [v(5)], most=0), run(5, [v(5)] * 4, most=3), wanted=-3)
        self.assertEqual(ask(begin(), run(5, [v(5)] * 4, most=4))[1], [4, 45, 45, 45, 45])

    def test_more_than_most_only_in_the_last_millisecond(self):
        self.check(run(850, [a(10), v(20), a(850)], most=2), wanted=-3)
        self.check(run(850, [a(10), v(20)], most=2), wanted=-3)

    def test_more_than_most_after_time_has_gone_by(self):
        for first in ([run(840)], [run(990)], [run(400, [a(300)])], [run(400, [v(300)])]):
            self.check(run(900, [a(5), v(300)], most=1), first=first, wanted=-3)

    def test_both_refusals_are_due(self):
        self.check(run(10, [a(5), a(4)], most=0), run(10, [a(5), a(11)], most=0), run(10, [a(1), 0], most=0))
        self.check(run(1000001, most=0), run(1, [a(1)] * 4097, most=0), run(10, [a(1)], most=-1))


class Answered(unittest.TestCase):
    def test_nothing_happens(self):
        self.assertEqual(ask(begin(), run(0), run(849), run(0), state()), [[0], [0], [0], [0], [0, 849, 849, 0, 0]])

    def test_numbers(self):
        # Each of the six things that may happen, in order.
        found = ask(begin(), run(1500, [a(10), v(20), a(300), v(400), a(410)]))
        wanted = [(10, 4), (20, 5), (300, 2), (400, 3), (410, 4), (1250, 0), (1400, 1)]
        self.assertEqual(found[1], [7] + [8 * t + what for t, what in wanted])

    def test_milliseconds_are_counted_anew_in_each_run(self):
        found = ask(begin(), run(800), run(100), run(100), run(400, [a(400)]))
        self.assertEqual(found[1:], [[0], [1, 8 * 50], [1, 8 * 100 + 1], [1, 8 * 400 + 2]])

    def test_one_run_is_as_good_as_many(self):
        for changes in ({}, {"way": 0}, {"way": 1}, {"high": 1000}):
            whole = ask(begin(**changes), run(2500, [v(300), a(690), a(710)]), state())
            parts = [run(1, [v(1)] if t == 300 else [a(1)] if t in (690, 710) else []) for t in range(1, 901)]
            found = ask(begin(**changes), *parts, run(1600), state())
            things = [8 * t + number - 8 for t, answer in enumerate(found[1:901], 1) for number in answer[1:]]
            things += [number + 8 * 900 for number in found[901][1:]]
            self.assertEqual([len(things)] + things, whole[1])
            self.assertEqual(found[902], whole[2])


if __name__ == "__main__":
    unittest.main()
