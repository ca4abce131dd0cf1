"""All promises together: many lines of calls, compared with the words taken one millisecond at a time."""

import random
import unittest

from tests.helper import SlowModel, ask, begin_with, run, state


def some_settings(rng):
    low = rng.choice([300, 301, 2000, rng.randint(300, 2000)])
    high = rng.choice([200, low, rng.randint(200, low)])
    delay = rng.choice([30, min(300, low - 1), rng.randint(30, min(300, low - 1))])
    after_odd = rng.choice([100, 600, rng.randint(100, 600)])
    atrium = rng.choice([100, after_odd, rng.randint(100, after_odd)])
    ventricle = rng.choice([100, high, rng.randint(100, high)])
    return [rng.choice([0, 1, 2, 2, 2]), low, high, delay, atrium, ventricle, after_odd]


def maybe_wrong(rng, numbers):
    place = rng.randrange(7)
    numbers[place] = max(0, numbers[place] + rng.choice([-1, 1, 65535 - numbers[place]]))
    return numbers


def some_run(rng):
    n = rng.choice([0, 1, rng.randint(0, 100), rng.randint(0, 3000)])
    much = rng.choice([0, 0, 1, 5, 20])
    times = sorted(rng.randint(1, n) for number in range(much)) if n else []
    if times and rng.random() < 0.3:
        times = sorted(times + times)
    beats = [2 * t + rng.randint(0, 1) for t in times]
    if beats and rng.random() < 0.1:
        beats[rng.randrange(len(beats))] = rng.randint(0, 2 * n + 3)
    return n, rng.choice([65536, 65536, 0, len(beats), len(beats) + 1, len(beats) + 2]), beats


class SameAsTheWords(unittest.TestCase):
    def check(self, rng, calls):
        model = SlowModel()
        asked, wanted = [], []
        for number in range(calls):
            choice = rng.random()
            if number == 0 or choice < 0.1:
                numbers = some_settings(rng)
                if number and rng.random() < 0.7:
                    numbers = maybe_wrong(rng, numbers)
                asked.append(begin_with(numbers))
                wanted.append(model.begin(numbers))
            else:
                n, most, beats = some_run(rng)
                asked.append(run(n, beats, most))
                wanted.append(model.run(n, most, beats))
            asked.append(state())
            wanted.append(model.state())
        self.assertEqual(ask(*asked), wanted)

    def test_many_lines(self):
        for seed in range(300):
            with self.subTest(seed=seed):
                self.check(random.Random(seed), 15)


if __name__ == "__main__":
    unittest.main()
