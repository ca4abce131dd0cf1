"""Promise 1: begin."""

import unittest

from tests.helper import V_PACED, a, ask, begin, begin_with, happened, run, settings, state


class SettingsAsTold(unittest.TestCase):
    def check(self, wanted, **changes):
        with self.subTest(**changes):
            # The answer of a first begin is 0, so what is tried comes behind one.
            self.assertEqual(ask(begin(), begin(**changes)), [[0], [wanted]])
            if wanted == 0:
                self.assertEqual(ask(begin(**changes)), [[0]])

    def test_way(self):
        for way in (0, 1, 2):
            self.check(0, way=way)
        for way in (3, 4, 65535):
            self.check(-2, way=way)

    def test_low(self):
        self.check(0, low=300, high=300)
        self.check(-2, low=299, high=299)
        self.check(-2, low=299, high=200)
        self.check(0, low=2000)
        self.check(-2, low=2001)
        self.check(-2, low=65535)
        self.check(-2, low=0)

    def test_high(self):
        self.check(0, high=200)
        self.check(-2, high=199, ventricle=150)
        self.check(0, high=1000, low=1000)
        self.check(-2, high=1001, low=1000)
        self.check(0, high=2000, low=2000)
        self.check(-2, high=2001, low=2000)
        self.check(-2, high=65535)

    def test_delay(self):
        self.check(0, delay=30)
        self.check(-2, delay=29)
        self.check(-2, delay=0)
        self.check(0, delay=300)
        self.check(-2, delay=301)
        self.check(-2, delay=65535)

    def test_delay_is_below_low(self):
        self.check(0, delay=299, low=300, high=300)
        self.check(-2, delay=300, low=300, high=300)
        self.check(0, delay=300, low=301, high=300)

    def test_atrium(self):
        self.check(0, atrium=100)
        self.check(-2, atrium=99)
        self.check(-2, atrium=0)
        self.check(0, atrium=600, after_odd=600)
        self.check(-2, atrium=601, after_odd=600)

    def test_ventricle(self):
        self.check(0, ventricle=100)
        self.check(-2, ventricle=99)
        self.check(-2, ventricle=0)
        self.check(0, ventricle=500, high=500)
        self.check(-2, ventricle=501, high=500)
        self.check(0, ventricle=2000, high=2000, low=2000)
        self.check(-2, ventricle=65535)

    def test_after_odd(self):
        self.check(0, after_odd=600)
        self.check(-2, after_odd=601)
        self.check(-2, after_odd=601, atrium=601)
        self.check(-2, after_odd=65535)
        self.check(0, after_odd=250, atrium=250)
        self.check(-2, after_odd=249, atrium=250)
        self.check(0, after_odd=100, atrium=100)
        self.check(-2, after_odd=99, atrium=100)

    def test_every_setting_counts_in_every_way(self):
        for way in (0, 1, 2):
            self.check(-2, way=way, low=2001)
            self.check(-2, way=way, high=1001)
            self.check(-2, way=way, delay=301)
            self.check(-2, way=way, atrium=99)
            self.check(-2, way=way, ventricle=99)
            self.check(-2, way=way, after_odd=601)

    def test_all_zero_and_all_greatest(self):
        self.assertEqual(ask(begin(), begin_with([0] * 7), begin_with([65535] * 7)), [[0], [-2], [-2]])

    def test_order_of_the_settings(self):
        # Seven settings that differ so much that no two can change places.
        numbers = [2, 2000, 1000, 60, 500, 900, 600]
        self.assertEqual(ask(begin_with(numbers)), [[0]])
        for i in range(6):
            turned = list(numbers)
            turned[i], turned[i + 1] = turned[i + 1], turned[i]
            with self.subTest(turned=turned):
                self.assertEqual(ask(begin(), begin_with(turned)), [[0], [-2]])


class BeginAgain(unittest.TestCase):
    def test_begins_with_the_new_settings(self):
        found = ask(begin(way=2), begin(way=0, low=700), run(1500))
        self.assertEqual(happened(found[2]), [(700, V_PACED), (1400, V_PACED)])

    def test_all_that_was_kept_is_new(self):
        later = [run(3000, [a(240), a(260), a(700)]), state()]
        found = ask(begin(), run(900), state(), begin(), state(), *later)
        self.assertEqual(found[2], [0, 900, 50, 1, 50])
        self.assertEqual(found[3:5], [[0], [0, 0, 0, 0, 0]])
        self.assertEqual(found[5:], ask(begin(), *later)[1:])

    def test_an_odd_beat_is_forgotten(self):
        felt = run(300, [601])
        found = ask(begin(), felt, begin(), run(250, [a(250)]))
        self.assertEqual(found[3], [1, 8 * 250 + 2])

    def test_an_atrial_beat_is_forgotten(self):
        # Had the atrium's beat stayed, the ventricle's would not be odd.
        found = ask(begin(), run(300, [a(300)]), begin(), run(700, [601, a(699), a(700)]))
        self.assertEqual(found[3], [3, 8 * 300 + 3, 8 * 699 + 4, 8 * 700 + 2])

    def test_refused_all_stays_as_it_was(self):
        later = [state(), run(3000, [a(1300), 2901]), state()]
        for first in (run(900), run(400, [a(300)]), run(400, [601]), run(0)):
            for wrong in (settings(low=299), settings(way=3), [0, 700, 300, 300, 100, 99, 100], [0] * 7):
                with self.subTest(first=first, wrong=wrong):
                    found = ask(begin(), first, begin_with(wrong), *later)
                    self.assertEqual(found[2], [-2])
                    self.assertEqual(found[3:], ask(begin(), first, *later)[2:])


if __name__ == "__main__":
    unittest.main()
