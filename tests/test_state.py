"""Promise 3: state."""

import unittest

from tests.helper import a, ask, begin, run, state, v


def state_after(*runs, **changes):
    return ask(begin(**changes), *runs, state())[-1]


class State(unittest.TestCase):
    def test_just_after_begin(self):
        for way in (0, 1, 2):
            self.assertEqual(state_after(way=way), [0, 0, 0, 0, 0])

    def test_while_nothing_is_waited_for(self):
        self.assertEqual(state_after(run(1)), [0, 1, 1, 0, 0])
        self.assertEqual(state_after(run(849)), [0, 849, 849, 0, 0])

    def test_while_the_ventricle_is_waited_for(self):
        self.assertEqual(state_after(run(850)), [0, 850, 0, 1, 0])
        self.assertEqual(state_after(run(851)), [0, 851, 1, 1, 1])
        self.assertEqual(state_after(run(999)), [0, 999, 149, 1, 149])
        self.assertEqual(state_after(run(300, [a(300)])), [0, 300, 0, 1, 0])
        self.assertEqual(state_after(run(310, [a(300)])), [0, 310, 10, 1, 10])

    def test_when_the_waiting_is_over(self):
        self.assertEqual(state_after(run(1000)), [0, 0, 150, 0, 0])
        self.assertEqual(state_after(run(1005)), [0, 5, 155, 0, 0])
        self.assertEqual(state_after(run(900, [v(870)])), [0, 30, 50, 0, 0])

    def test_waited_for_longer_than_the_delay(self):
        self.assertEqual(state_after(run(999, [a(250)]), high=1000), [0, 999, 749, 1, 749])
        self.assertEqual(state_after(run(1000, [a(250)]), high=1000), [0, 0, 750, 0, 0])

    def test_passed_over_beats_change_nothing(self):
        self.assertEqual(state_after(run(200, [a(150), v(160)])), [0, 200, 200, 0, 0])
        self.assertEqual(state_after(run(300, [a(250), a(260)])), [0, 300, 50, 1, 50])

    def test_it_changes_nothing(self):
        found = ask(begin(), run(900), state(), state(), run(100), state())
        self.assertEqual(found[2:], [[0, 900, 50, 1, 50]] * 2 + [[1, 8 * 100 + 1], [0, 0, 150, 0, 0]])

    def test_a_taken_beat_of_each_chamber(self):
        self.assertEqual(state_after(run(700, [v(600)]), way=0), [0, 100, 700, 0, 0])
        self.assertEqual(state_after(run(700, [a(600)]), way=1), [0, 700, 100, 0, 0])
        self.assertEqual(state_after(run(700, [v(600)]), way=2), [0, 100, 700, 0, 0])


class CountedUpTo(unittest.TestCase):
    def test_the_atrium_where_the_ventricle_is_alone(self):
        self.assertEqual(state_after(run(999999), way=0), [0, 999, 999999, 0, 0])
        self.assertEqual(state_after(run(1000000), way=0), [0, 0, 1000000, 0, 0])
        self.assertEqual(state_after(run(1000000), run(1), way=0), [0, 1, 1000000, 0, 0])
        self.assertEqual(state_after(run(999999), run(2), way=0), [0, 1, 1000000, 0, 0])
        self.assertEqual(state_after(run(600000), run(600000), run(7), way=0), [0, 7, 1000000, 0, 0])

    def test_the_ventricle_where_the_atrium_is_alone(self):
        self.assertEqual(state_after(run(999999), way=1), [0, 999999, 999, 0, 0])
        self.assertEqual(state_after(run(1000000), way=1), [0, 1000000, 0, 0, 0])
        self.assertEqual(state_after(run(1000000), run(1), way=1), [0, 1000000, 1, 0, 0])
        self.assertEqual(state_after(run(1000000), run(1000000), run(30), way=1), [0, 1000000, 30, 0, 0])

    def test_the_atrium_where_the_ventricle_beats_by_itself(self):
        beats = [v(800 * i) for i in range(1, 1251)]
        self.assertEqual(state_after(run(999999, beats[:-1])), [0, 799, 999999, 0, 0])
        self.assertEqual(state_after(run(1000000, beats)), [0, 0, 1000000, 0, 0])
        self.assertEqual(state_after(run(1000000, beats), run(5)), [0, 5, 1000000, 0, 0])
        self.assertEqual(state_after(run(1000000, beats), run(850)), [0, 850, 0, 1, 0])


if __name__ == "__main__":
    unittest.main()
