"""A book: the object that holds a log and answers the calls, each with a list of numbers."""

from boatlog.hulls import bow, do_touch, heading, is_clear_astern, is_in_zone, is_to_leeward
from boatlog.lines import FARTHEST
from boatlog.log import NO_FAULT, Log
from boatlog.straights import goes_over, when_over
from boatlog.turns import rounds

DONE = 0
TOO_LONG = -2
NONE_FOUND = -3
NO_SUCH = -4
FAULTY = -6
WRONG = -8

MOST_BYTES = 65536
WIDEST_ZONE = 64


def is_too_far(place):
    return abs(place[0]) > FARTHEST or abs(place[1]) > FARTHEST


def which(first, second):
    """1 if the first holds, 2 if the second does, 3 if both do, else 0."""
    return (1 if first else 0) + (2 if second else 0)


class Book:
    def __init__(self):
        self.log = Log()

    def take(self, text):
        return self.hold_grown(Log(), text)

    def more(self, text):
        # The held log's text ends with a line, so judging can go on where it ended.
        return self.hold_grown(self.log.copied(), text)

    def hold_grown(self, log, text):
        """Holds the log, which is not the held one, with the text behind it, if nothing's wrong with that."""
        if len(log.written) + len(text) > MOST_BYTES:
            return [TOO_LONG]
        why = log.write(text)
        if why != NO_FAULT:
            return [FAULTY, log.lines, why]
        self.log = log
        return [DONE]

    def text(self):
        return [len(self.log.written)] + self.log.written

    def sizes(self):
        return [DONE, len(self.log.names), len(self.log.moments), len(self.log.winds)]

    def name(self, i):
        if not self.has_boat(i):
            return [NO_SUCH]
        return [len(self.log.names[i])] + self.log.names[i]

    def boat(self, i, m):
        if not self.has_boat(i) or not self.has_moment(m):
            return [NO_SUCH]
        moment = self.log.moments[m]
        return [DONE] + list(moment.hulls[i]) + list(moment.wind)

    def tack(self, i, m):
        if not self.has_boat(i) or not self.has_moment(m):
            return [NO_SUCH]
        return [self.log.moments[m].tacks[i]]

    def next_change(self, i, m):
        if not self.has_boat(i) or not self.has_moment(m):
            return [NO_SUCH]
        moments = self.log.moments
        for k in range(m + 1, len(moments)):
            change = moments[k].change_since(moments[k - 1], i)
            if change is not None:
                return [DONE, k, change]
        return [NONE_FOUND]

    def rounds_made(self, i, m, k):
        if k < m:
            return [WRONG]
        if not self.has_boat(i) or not self.has_moment(k):
            return [NO_SUCH]
        return [DONE, rounds([heading(moment.hulls[i]) for moment in self.log.moments[m:k + 1]])]

    def pair(self, i, j, m):
        if i == j:
            return [WRONG]
        if not self.has_boat(i) or not self.has_boat(j) or not self.has_moment(m):
            return [NO_SUCH]
        moment = self.log.moments[m]
        one = moment.hulls[i]
        other = moment.hulls[j]
        astern = which(is_clear_astern(one, other), is_clear_astern(other, one))
        leeward = which(is_to_leeward(other, one, moment.wind), is_to_leeward(one, other, moment.wind))
        return [DONE, astern, leeward, 1 if do_touch(one, other) else 0]

    def zone(self, i, m, place, k):
        if is_too_far(place) or k > WIDEST_ZONE:
            return [WRONG]
        if not self.has_boat(i) or not self.has_moment(m):
            return [NO_SUCH]
        return [1 if is_in_zone(self.log.moments[m].hulls[i], place, k) else 0]

    def over(self, i, m, p, q):
        if is_too_far(p) or is_too_far(q) or p == q:
            return [WRONG]
        if not self.has_boat(i) or not self.has_moment(m):
            return [NO_SUCH]
        bows = [bow(moment.hulls[i]) for moment in self.log.moments[m:]]
        for k in range(len(bows) - 1):
            if goes_over(bows[k], bows[k + 1], p, q):
                return [DONE, m + k] + when_over(bows[k], bows[k + 1], p, q)
        return [NONE_FOUND]

    def touch(self, i, j, m):
        if i == j:
            return [WRONG]
        if not self.has_boat(i) or not self.has_boat(j) or not self.has_moment(m):
            return [NO_SUCH]
        moments = self.log.moments
        for k in range(m, len(moments)):
            if do_touch(moments[k].hulls[i], moments[k].hulls[j]):
                return [DONE, k]
        return [NONE_FOUND]

    def has_boat(self, i):
        return i < len(self.log.names)

    def has_moment(self, m):
        return m < len(self.log.moments)
