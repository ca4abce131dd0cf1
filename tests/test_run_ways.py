"""Promise 2: what is felt and what is paced, in each of the three ways."""

import unittest

from tests.helper import (
    A_PACED, A_PASSED, A_TAKEN, V_PACED, V_PASSED, V_TAKEN, a, ask, begin, happened, run, state, things_of, v,
)


class VentricleAlone(unittest.TestCase):
    def test_paced_each_low(self):
        self.assertEqual(things_of(999, way=0), [])
        self.assertEqual(things_of(1000, way=0), [(1000, V_PACED)])
        self.assertEqual(things_of(3999, way=0), [(1000, V_PACED), (2000, V_PACED), (3000, V_PACED)])

    def test_ends_of_low(self):
        self.assertEqual(things_of(600, way=0, low=300, high=300), [(300, V_PACED), (600, V_PACED)])
        self.assertEqual(things_of(2000, way=0, low=2000), [(2000, V_PACED)])

    def test_the_atrium_is_passed_over(self):
        found = things_of(1001, [a(1), a(600), a(1000)], way=0)
        self.assertEqual(found, [(1, A_PASSED), (600, A_PASSED), (1000, A_PASSED), (1000, V_PACED)])

    def test_felt_just_after_and_just_before_the_end(self):
        self.assertEqual(things_of(199, [v(199)], way=0), [(199, V_PASSED)])
        self.assertEqual(things_of(200, [v(200)], way=0), [(200, V_TAKEN)])
        found = things_of(1400, [v(999), v(1198), v(1199), v(1398), v(1399)], way=0)
        wanted = [(999, V_TAKEN), (1198, V_PASSED), (1199, V_TAKEN), (1398, V_PASSED), (1399, V_TAKEN)]
        self.assertEqual(found, wanted)

    def test_after_a_pace_it_is_passed_over_too(self):
        found = things_of(1200, [v(1001), v(1199), v(1200)], way=0)
        self.assertEqual(found, [(1000, V_PACED), (1001, V_PASSED), (1199, V_PASSED), (1200, V_TAKEN)])

    def test_a_beat_puts_the_pace_off(self):
        self.assertEqual(things_of(1700, [v(700)], way=0), [(700, V_TAKEN), (1700, V_PACED)])
        self.assertEqual(things_of(1699, [v(700)], way=0), [(700, V_TAKEN)])

    def test_a_passed_over_beat_does_not(self):
        self.assertEqual(things_of(1000, [v(100)], way=0), [(100, V_PASSED), (1000, V_PACED)])

    def test_felt_in_the_very_millisecond_of_the_pace(self):
        self.assertEqual(things_of(2000, [v(1000)], way=0), [(1000, V_TAKEN), (2000, V_PACED)])

    def test_nothing_is_ever_waited_for(self):
        found = ask(begin(way=0), run(1500, [a(500), v(600)]), state())
        self.assertEqual(found[2], [0, 900, 1500, 0, 0])


class AtriumAlone(unittest.TestCase):
    def test_paced_each_low(self):
        self.assertEqual(things_of(999, way=1), [])
        self.assertEqual(things_of(1000, way=1), [(1000, A_PACED)])
        self.assertEqual(things_of(3999, way=1), [(1000, A_PACED), (2000, A_PACED), (3000, A_PACED)])

    def test_the_ventricle_is_passed_over(self):
        found = things_of(1001, [v(1), v(600), v(1000)], way=1)
        self.assertEqual(found, [(1, V_PASSED), (600, V_PASSED), (1000, V_PASSED), (1000, A_PACED)])

    def test_felt_just_after_and_just_before_the_end(self):
        self.assertEqual(things_of(249, [a(249)], way=1), [(249, A_PASSED)])
        self.assertEqual(things_of(250, [a(250)], way=1), [(250, A_TAKEN)])
        found = things_of(1300, [a(700), a(949), a(950), a(1199), a(1200)], way=1)
        wanted = [(700, A_TAKEN), (949, A_PASSED), (950, A_TAKEN), (1199, A_PASSED), (1200, A_TAKEN)]
        self.assertEqual(found, wanted)

    def test_after_a_pace_it_is_passed_over_too(self):
        found = things_of(1250, [a(1001), a(1249), a(1250)], way=1)
        self.assertEqual(found, [(1000, A_PACED), (1001, A_PASSED), (1249, A_PASSED), (1250, A_TAKEN)])

    def test_the_time_after_an_odd_beat_is_not_used(self):
        found = things_of(1000, [v(300), v(600), a(650), a(900)], way=1, after_odd=600)
        self.assertEqual(found[2:], [(650, A_TAKEN), (900, A_TAKEN)])

    def test_a_beat_puts_the_pace_off(self):
        self.assertEqual(things_of(1700, [a(700)], way=1), [(700, A_TAKEN), (1700, A_PACED)])

    def test_a_passed_over_beat_does_not(self):
        self.assertEqual(things_of(1000, [a(100)], way=1), [(100, A_PASSED), (1000, A_PACED)])

    def test_felt_in_the_very_millisecond_of_the_pace(self):
        self.assertEqual(things_of(2000, [a(1000)], way=1), [(1000, A_TAKEN), (2000, A_PACED)])

    def test_passed_over_and_paced_in_one_millisecond(self):
        found = things_of(300, [a(300)], way=1, low=300, high=300, atrium=600, after_odd=600)
        self.assertEqual(found, [(300, A_PASSED), (300, A_PACED)])

    def test_nothing_is_ever_waited_for(self):
        found = ask(begin(way=1), run(1500, [a(500), v(600)]), state(), run(1), state())
        self.assertEqual(found[1], [3, 4002, 4805, 12000])
        self.assertEqual(found[2], [0, 1500, 0, 0, 0])
        self.assertEqual(found[4], [0, 1501, 1, 0, 0])


class BothPaced(unittest.TestCase):
    def test_the_atrium_at_the_very_millisecond(self):
        self.assertEqual(things_of(849), [])
        self.assertEqual(things_of(850), [(850, A_PACED)])

    def test_the_ventricle_at_the_very_millisecond(self):
        self.assertEqual(things_of(999), [(850, A_PACED)])
        self.assertEqual(things_of(1000), [(850, A_PACED), (1000, V_PACED)])

    def test_on_and_on(self):
        wanted = [(850, A_PACED), (1000, V_PACED), (1850, A_PACED), (2000, V_PACED), (2850, A_PACED)]
        self.assertEqual(things_of(2999), wanted)

    def test_delay_just_below_low(self):
        found = things_of(601, low=300, high=300, delay=299)
        self.assertEqual(found, [(1, A_PACED), (300, V_PACED), (301, A_PACED), (600, V_PACED), (601, A_PACED)])

    def test_a_felt_atrium_is_followed_after_the_delay(self):
        self.assertEqual(things_of(549, [a(400)]), [(400, A_TAKEN)])
        self.assertEqual(things_of(550, [a(400)]), [(400, A_TAKEN), (550, V_PACED)])
        self.assertEqual(things_of(1400, [a(400)]), [(400, A_TAKEN), (550, V_PACED), (1400, A_PACED)])

    def test_a_pace_waits_for_high(self):
        self.assertEqual(things_of(799, [a(300)], high=800), [(300, A_TAKEN)])
        self.assertEqual(things_of(800, [a(300)], high=800), [(300, A_TAKEN), (800, V_PACED)])
        # The delay and high end together; or one of them a millisecond after the other.
        self.assertEqual(things_of(900, [a(650)], high=800), [(650, A_TAKEN), (800, V_PACED)])
        self.assertEqual(things_of(900, [a(651)], high=800), [(651, A_TAKEN), (801, V_PACED)])
        self.assertEqual(things_of(900, [a(649)], high=800), [(649, A_TAKEN), (800, V_PACED)])

    def test_no_atrial_pace_while_the_ventricle_is_waited_for(self):
        found = things_of(1000, [a(300)], high=1000)
        self.assertEqual(found, [(300, A_TAKEN), (1000, V_PACED)])

    def test_a_ventricular_beat_ends_the_waiting(self):
        found = things_of(1449, [a(400), v(549)])
        self.assertEqual(found, [(400, A_TAKEN), (549, V_TAKEN), (1399, A_PACED)])

    def test_a_passed_over_ventricular_beat_does_not(self):
        found = things_of(400, [a(110), v(120)], high=200, atrium=100)
        self.assertEqual(found, [(110, A_TAKEN), (120, V_PASSED), (260, V_PACED)])

    def test_low_is_counted_from_the_ventricle(self):
        self.assertEqual(things_of(1149, [v(300)]), [(300, V_TAKEN)])
        self.assertEqual(things_of(1150, [v(300)]), [(300, V_TAKEN), (1150, A_PACED)])

    def test_felt_in_the_very_millisecond_of_the_pace(self):
        self.assertEqual(things_of(1000, [a(850)]), [(850, A_TAKEN), (1000, V_PACED)])
        self.assertEqual(things_of(1850, [v(1000)]), [(850, A_PACED), (1000, V_TAKEN), (1850, A_PACED)])
        self.assertEqual(things_of(1700, [v(850)]), [(850, V_TAKEN), (1700, A_PACED)])

    def test_passed_over_and_paced_in_one_millisecond(self):
        found = things_of(1, [a(1), v(1)], low=300, high=300, delay=299)
        self.assertEqual(found, [(1, A_PASSED), (1, V_PASSED), (1, A_PACED)])
        found = things_of(1000, [a(1000)])
        self.assertEqual(found, [(850, A_PACED), (1000, A_PASSED), (1000, V_PACED)])


class BothFelt(unittest.TestCase):
    def test_the_atrium_after_the_ventricle(self):
        self.assertEqual(things_of(249, [a(249)]), [(249, A_PASSED)])
        self.assertEqual(things_of(250, [a(250)]), [(250, A_TAKEN)])
        found = things_of(1250, [a(1001), a(1249), a(1250)])
        self.assertEqual(found[2:], [(1001, A_PASSED), (1249, A_PASSED), (1250, A_TAKEN)])

    def test_the_atrium_is_not_held_to_its_own_last_beat(self):
        # The ventricle's last beat is asked, however long ago the atrium's was.
        found = things_of(500, [v(300), a(400), v(500)], atrium=250, after_odd=250)
        self.assertEqual(found, [(300, V_TAKEN), (400, A_PASSED), (500, V_TAKEN)])
        found = things_of(350, [a(250), v(250), a(350)], atrium=100)
        self.assertEqual(found, [(250, A_TAKEN), (250, V_TAKEN), (350, A_TAKEN)])

    def test_the_atrium_while_the_ventricle_is_waited_for(self):
        found = things_of(700, [a(300), a(301), a(699)], high=700)
        self.assertEqual(found, [(300, A_TAKEN), (301, A_PASSED), (699, A_PASSED), (700, V_PACED)])
        found = things_of(999, [a(851), a(999)])
        self.assertEqual(found, [(850, A_PACED), (851, A_PASSED), (999, A_PASSED)])

    def test_a_passed_over_atrium_does_not_start_the_delay_anew(self):
        found = things_of(700, [a(400), a(500)])
        self.assertEqual(found, [(400, A_TAKEN), (500, A_PASSED), (550, V_PACED)])

    def test_the_ventricle_after_the_ventricle(self):
        self.assertEqual(things_of(199, [v(199)]), [(199, V_PASSED)])
        self.assertEqual(things_of(200, [v(200)]), [(200, V_TAKEN)])
        found = things_of(1200, [v(1001), v(1199), v(1200)])
        self.assertEqual(found[2:], [(1001, V_PASSED), (1199, V_PASSED), (1200, V_TAKEN)])
        found = things_of(500, [v(300), v(499), v(500)])
        self.assertEqual(found, [(300, V_TAKEN), (499, V_PASSED), (500, V_TAKEN)])

    def test_several_in_one_millisecond_in_their_order(self):
        found = things_of(300, [a(300), v(300), a(300), v(300)])
        self.assertEqual(found, [(300, A_TAKEN), (300, V_TAKEN), (300, A_PASSED), (300, V_PASSED)])
        found = things_of(300, [v(300), a(300), a(300)])
        self.assertEqual(found, [(300, V_TAKEN), (300, A_PASSED), (300, A_PASSED)])
        found = things_of(300, [a(300), a(300), v(300)])
        self.assertEqual(found, [(300, A_TAKEN), (300, A_PASSED), (300, V_TAKEN)])

    def test_several_milliseconds_with_several_beats(self):
        found = things_of(700, [a(1), v(1), v(300), v(300), v(700), a(700)])
        wanted = [(1, A_PASSED), (1, V_PASSED), (300, V_TAKEN), (300, V_PASSED), (700, V_TAKEN), (700, A_PASSED)]
        self.assertEqual(found, wanted)


class OddBeats(unittest.TestCase):
    def atrial_rest(self, beats, last):
        """How long after its last beat at millisecond last the ventricle lets the atrium's be taken."""
        taken = []
        for rest in (249, 250, 399, 400):
            found = things_of(last + rest, beats + [a(last + rest)])
            self.assertEqual(found[-1][0], last + rest)
            self.assertIn((last, V_TAKEN), found)
            taken.append(found[-1][1])
        return taken

    odd = [A_PASSED, A_PASSED, A_PASSED, A_TAKEN]
    not_odd = [A_PASSED, A_TAKEN, A_TAKEN, A_TAKEN]

    def test_no_atrial_beat_before(self):
        self.assertEqual(self.atrial_rest([v(300)], 300), self.odd)

    def test_a_felt_atrial_beat_before(self):
        self.assertEqual(self.atrial_rest([a(300), v(400)], 400), self.not_odd)
        self.assertEqual(self.atrial_rest([a(400), v(400)], 400), self.not_odd)

    def test_a_paced_atrial_beat_before(self):
        self.assertEqual(self.atrial_rest([v(900)], 900), self.not_odd)

    def test_a_passed_over_atrial_beat_does_not_count(self):
        self.assertEqual(self.atrial_rest([a(100), v(300)], 300), self.odd)

    def test_a_passed_over_ventricular_beat_changes_nothing(self):
        self.assertEqual(self.atrial_rest([v(300), v(310)], 300), self.odd)
        self.assertEqual(self.atrial_rest([a(300), v(400), v(410)], 400), self.not_odd)

    def test_two_odd_beats(self):
        self.assertEqual(self.atrial_rest([v(300), v(600)], 600), self.odd)

    def test_odd_after_one_that_was_not(self):
        self.assertEqual(self.atrial_rest([a(300), v(400), v(700)], 700), self.odd)

    def test_not_odd_after_an_odd_one(self):
        self.assertEqual(self.atrial_rest([v(300), a(700), v(750)], 750), self.not_odd)

    def test_odd_after_a_paced_one(self):
        self.assertEqual(self.atrial_rest([v(1300)], 1300), self.odd)

    def test_a_paced_ventricle_is_not_odd(self):
        found = things_of(1550, [v(300), a(1549), a(1550)])
        wanted = [(300, V_TAKEN), (1150, A_PACED), (1300, V_PACED), (1549, A_PASSED), (1550, A_TAKEN)]
        self.assertEqual(found, wanted)

    def test_the_first_beats_are_not_odd(self):
        self.assertEqual(things_of(250, [a(250)]), [(250, A_TAKEN)])

    def test_longest_time_after_an_odd_beat(self):
        found = things_of(900, [v(300), a(899), a(900)], after_odd=600, low=2000)
        self.assertEqual(found, [(300, V_TAKEN), (899, A_PASSED), (900, A_TAKEN)])

    def test_over_two_runs(self):
        found = ask(begin(), run(300, [v(300)]), run(400, [a(399), a(400)]))
        self.assertEqual(happened(found[2]), [(399, A_PASSED), (400, A_TAKEN)])


class LongRuns(unittest.TestCase):
    def test_a_million_milliseconds(self):
        wanted = []
        for t in range(1000, 1000001, 1000):
            wanted += [(t - 150, A_PACED), (t, V_PACED)]
        self.assertEqual(things_of(1000000), wanted)
        self.assertEqual(things_of(1000000, way=0), wanted[1::2])

    def test_fastest_pacing(self):
        found = things_of(1000000, low=300, high=200, delay=30)
        wanted = []
        for t in range(300, 1000001, 300):
            wanted += [(t - 30, A_PACED), (t, V_PACED)]
        self.assertEqual(found, wanted)

    def test_as_many_beats_as_there_may_be(self):
        beats = [v(200 * i) for i in range(1, 4097)]
        self.assertEqual(things_of(819200, beats), [(200 * i, V_TAKEN) for i in range(1, 4097)])


if __name__ == "__main__":
    unittest.main()
