"""The pacemaker, and the list of calls through which it is told what to do."""

BEGIN = 0
RUN = 1

VENTRICLE_ALONE = 0
ATRIUM_ALONE = 1
BOTH = 2

ATRIUM = 0
VENTRICLE = 1

PACED = 0
TAKEN = 2
PASSED_OVER = 4

LONGEST_AGO = 1000000
MOST_BEATS = 4096
MOST_MILLISECONDS = 1000000
MOST_THINGS = 65536


# All times are in milliseconds.
class Settings:
    def __init__(self, numbers):
        self.way = numbers[0]
        self.low = numbers[1]
        self.high = numbers[2]
        self.delay = numbers[3]
        self.atrium = numbers[4]
        self.ventricle = numbers[5]
        self.after_odd = numbers[6]

    def are_as_told(self):
        return (
            VENTRICLE_ALONE <= self.way <= BOTH
            and 300 <= self.low <= 2000
            and 200 <= self.high <= self.low
            and 30 <= self.delay <= 300
            and self.delay < self.low
            and 100 <= self.atrium <= self.after_odd <= 600
            and 100 <= self.ventricle <= self.high
        )


class Pacemaker:
    def __init__(self, settings):
        self.settings = settings
        self.ventricle_ago = 0
        self.atrium_ago = 0
        self.waiting = False
        self.waited = 0
        self.atrium_since = False
        self.odd = False

    def twin(self):
        other = Pacemaker(self.settings)
        other.ventricle_ago = self.ventricle_ago
        other.atrium_ago = self.atrium_ago
        other.waiting = self.waiting
        other.waited = self.waited
        other.atrium_since = self.atrium_since
        other.odd = self.odd
        return other

    def let_pass(self, milliseconds):
        self.ventricle_ago = min(self.ventricle_ago + milliseconds, LONGEST_AGO)
        self.atrium_ago = min(self.atrium_ago + milliseconds, LONGEST_AGO)
        if self.waiting:
            self.waited += milliseconds

    def atrium_beats(self):
        self.atrium_ago = 0
        self.atrium_since = True
        # With the atrium alone the ventricle is never paced, so it is never waited for either.
        if self.settings.way == BOTH:
            self.waiting = True
            self.waited = 0

    def ventricle_beats(self, odd):
        self.ventricle_ago = 0
        self.waiting = False
        self.waited = 0
        self.atrium_since = False
        self.odd = odd

    def passes_over_atrium(self):
        settings = self.settings
        if settings.way == VENTRICLE_ALONE:
            return True
        if settings.way == ATRIUM_ALONE:
            return self.atrium_ago < settings.atrium
        blind = settings.after_odd if self.odd else settings.atrium
        return self.waiting or self.ventricle_ago < blind

    def passes_over_ventricle(self):
        return self.settings.way == ATRIUM_ALONE or self.ventricle_ago < self.settings.ventricle

    def feel(self, chamber):
        if chamber == ATRIUM:
            if self.passes_over_atrium():
                return PASSED_OVER
            self.atrium_beats()
            return TAKEN
        if self.passes_over_ventricle():
            return PASSED_OVER
        self.ventricle_beats(self.settings.way == BOTH and not self.atrium_since)
        return TAKEN

    def time_for_atrium(self):
        settings = self.settings
        if settings.way == ATRIUM_ALONE:
            return self.atrium_ago >= settings.low
        return settings.way == BOTH and not self.waiting and self.ventricle_ago >= settings.low - settings.delay

    def time_for_ventricle(self):
        settings = self.settings
        if settings.way == VENTRICLE_ALONE:
            return self.ventricle_ago >= settings.low
        return self.waiting and self.waited >= settings.delay and self.ventricle_ago >= settings.high

    def until_pace(self):
        # Never below 1 between two milliseconds: what was due by then has been paced.
        settings = self.settings
        if settings.way == VENTRICLE_ALONE:
            return settings.low - self.ventricle_ago
        if settings.way == ATRIUM_ALONE:
            return settings.low - self.atrium_ago
        if self.waiting:
            return max(settings.delay - self.waited, settings.high - self.ventricle_ago)
        return settings.low - settings.delay - self.ventricle_ago


def thing(millisecond, what, chamber):
    return 8 * millisecond + what + chamber


def beat_millisecond(beat):
    return beat // 2


def beat_chamber(beat):
    return VENTRICLE if beat % 2 == 1 else ATRIUM


def pace_if_time(pacemaker, now, things):
    if pacemaker.time_for_atrium():
        pacemaker.atrium_beats()
        things.append(thing(now, PACED, ATRIUM))
    if pacemaker.time_for_ventricle():
        pacemaker.ventricle_beats(False)
        things.append(thing(now, PACED, VENTRICLE))


def next_millisecond(pacemaker, now, n, beats, felt):
    # A run may be a million milliseconds long, and in most of them nothing happens: those are skipped.
    coming = min(now + pacemaker.until_pace(), n)
    if felt < len(beats):
        coming = min(coming, beat_millisecond(beats[felt]))
    return coming


def go_on(pacemaker, n, most, beats):
    # Once more than most things have happened the run is refused, so the rest of it is left out.
    things = []
    now = 0
    felt = 0
    while now < n and len(things) <= most:
        coming = next_millisecond(pacemaker, now, n, beats, felt)
        pacemaker.let_pass(coming - now)
        now = coming
        while felt < len(beats) and beat_millisecond(beats[felt]) == now:
            chamber = beat_chamber(beats[felt])
            things.append(thing(now, pacemaker.feel(chamber), chamber))
            felt += 1
        pace_if_time(pacemaker, now, things)
    return things


def run_is_as_told(m, n, most):
    return 0 <= m <= MOST_BEATS and 0 <= n <= MOST_MILLISECONDS and 0 <= most <= MOST_THINGS


def beats_are_as_told(beats, n):
    earliest = 1
    for beat in beats:
        if not earliest <= beat_millisecond(beat) <= n:
            return False
        earliest = beat_millisecond(beat)
    return True


class Line:
    def __init__(self):
        # There is nothing before the first begin, and a line always starts with one.
        self.pacemaker = None

    def begin(self, numbers):
        settings = Settings(numbers)
        if not settings.are_as_told():
            return [-2]
        self.pacemaker = Pacemaker(settings)
        return [0]

    def run(self, m, n, most, beats):
        if not run_is_as_told(m, n, most) or not beats_are_as_told(beats, n):
            return [-2]
        # How many things happen is known only afterwards, so a twin tries it first.
        changed = self.pacemaker.twin()
        things = go_on(changed, n, most, beats)
        if len(things) > most:
            return [-3]
        self.pacemaker = changed
        return [len(things)] + things

    def state(self):
        kept = self.pacemaker
        return [0, kept.ventricle_ago, kept.atrium_ago, 1 if kept.waiting else 0, kept.waited]


def row_end(calls, at):
    # A length below 0 is refused by run; no number belongs to its row.
    return at + 1 + max(calls[at], 0)


def answers(calls):
    line = Line()
    given = []
    at = 0
    while at < len(calls):
        if calls[at] == BEGIN:
            end = row_end(calls, at + 1)
            answer = line.begin(calls[at + 2:end])
        elif calls[at] == RUN:
            end = row_end(calls, at + 3)
            answer = line.run(calls[at + 3], calls[at + 1], calls[at + 2], calls[at + 4:end])
        else:
            end = at + 1
            answer = line.state()
        given.append(len(answer))
        given.extend(answer)
        at = end
    return given
