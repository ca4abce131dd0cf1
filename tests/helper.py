"""How the tests write calls, read answers, and reckon an answer millisecond by millisecond."""

from heartpacer.pacer import answers

A_PACED, V_PACED, A_TAKEN, V_TAKEN, A_PASSED, V_PASSED = range(6)


def settings(way=2, low=1000, high=500, delay=150, atrium=250, ventricle=200, after_odd=400):
    return [way, low, high, delay, atrium, ventricle, after_odd]


def begin(**changes):
    return begin_with(settings(**changes))


def begin_with(numbers):
    return [0, len(numbers)] + numbers


def run(n, beats=(), most=65536):
    return [1, n, most, len(beats)] + list(beats)


def state():
    return [2]


def a(millisecond):
    return 2 * millisecond


def v(millisecond):
    return 2 * millisecond + 1


def split(given):
    found = []
    at = 0
    while at < len(given):
        found.append(given[at + 1:at + 1 + given[at]])
        if len(found[-1]) != given[at] or given[at] < 1:
            raise ValueError("an answer is not as long as it says")
        at += 1 + given[at]
    return found


def ask(*calls):
    """The answers to these calls, a list each."""
    found = split(answers([number for call in calls for number in call]))
    if len(found) != len(calls):
        raise ValueError("not one answer for each call")
    return found


def happened(answer):
    """What a run's answer tells, as pairs of a millisecond and what happened in it."""
    if answer[0] != len(answer) - 1:
        raise ValueError("not as many things as told")
    return [(number // 8, number % 8) for number in answer[1:]]


def things_of(n, beats=(), **changes):
    """What happens in one run just after begin."""
    return happened(ask(begin(**changes), run(n, beats))[1])


class SlowModel:
    """The document's words taken one millisecond at a time, for comparing."""

    def __init__(self):
        self.kept = None

    def begin(self, numbers):
        way, low, high, delay, atrium, ventricle, after_odd = numbers
        told = [
            way in (0, 1, 2), low in range(300, 2001), high in range(200, low + 1),
            delay in range(30, 301), delay < low, atrium >= 100,
            ventricle in range(100, high + 1), atrium <= after_odd <= 600,
        ]
        if not all(told):
            return [-2]
        self.settings = tuple(numbers)
        self.kept = {"v": 0, "a": 0, "w": None, "since": False, "odd": False}
        return [0]

    def state(self):
        w = self.kept["w"]
        return [0, self.kept["v"], self.kept["a"], int(w is not None), w or 0]

    def run(self, n, most, beats):
        times = [beat >> 1 for beat in beats]
        if len(beats) > 4096 or n not in range(1000001) or most not in range(65537):
            return [-2]
        if times != sorted(times) or any(t < 1 or t > n for t in times):
            return [-2]
        before = dict(self.kept)
        things = []
        by_time = {}
        for beat in beats:
            by_time.setdefault(beat >> 1, []).append(beat & 1)
        for now in range(1, n + 1):
            things.extend(8 * now + what for what in self.millisecond(by_time.get(now, [])))
        if len(things) > most:
            self.kept = before
            return [-3]
        return [len(things)] + things

    def millisecond(self, felt):
        k = self.kept
        k["v"] = min(k["v"] + 1, 1000000)
        k["a"] = min(k["a"] + 1, 1000000)
        if k["w"] is not None:
            k["w"] += 1
        found = [self.feel_ventricle() if chamber else self.feel_atrium() for chamber in felt]
        way, low, high, delay = self.settings[:4]
        if way == 1 and k["a"] >= low:
            k["a"] = 0
            found.append(A_PACED)
        if way == 2 and k["w"] is None and k["v"] >= low - delay:
            k.update(a=0, w=0, since=True)
            found.append(A_PACED)
        by_delay = way == 2 and k["w"] is not None and k["w"] >= delay and k["v"] >= high
        if by_delay or (way == 0 and k["v"] >= low):
            k.update(v=0, w=None, since=False, odd=False)
            found.append(V_PACED)
        return found

    def feel_atrium(self):
        k = self.kept
        way = self.settings[0]
        if way == 0 or (way == 1 and k["a"] < self.settings[4]):
            return A_PASSED
        if way == 1:
            k["a"] = 0
            return A_TAKEN
        if k["w"] is not None or k["v"] < self.settings[6 if k["odd"] else 4]:
            return A_PASSED
        k.update(a=0, w=0, since=True)
        return A_TAKEN

    def feel_ventricle(self):
        k = self.kept
        if self.settings[0] == 1 or k["v"] < self.settings[5]:
            return V_PASSED
        k.update(odd=self.settings[0] == 2 and not k["since"], v=0, w=None, since=False)
        return V_TAKEN
