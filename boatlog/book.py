"""A book: the object that holds a log and answers the calls, each with a list of numbers."""

from boatlog.log import NO_FAULT, Log

DONE = 0
TOO_LONG = -2
NO_SUCH = -4
FAULTY = -6

MOST_BYTES = 65536


class Book:
    def __init__(self):
        self.log = Log()

    def take(self, text):
        return self.hold_grown(Log(), text)

    def more(self, text):
        # The held log's text ends with a line, so judging can go on where it ended.
        return self.hold_grown(self.log.copied(), text)

    def hold_grown(self, log, text):
        """Holds the log, which is not the held one, with the text behind it, if nothing's wrong with that."""
        if len(log.written) + len(text) > MOST_BYTES:
            return [TOO_LONG]
        why = log.write(text)
        if why != NO_FAULT:
            return [FAULTY, log.lines, why]
        self.log = log
        return [DONE]

    def text(self):
        return [len(self.log.written)] + self.log.written

    def sizes(self):
        return [DONE, len(self.log.names), len(self.log.moments), len(self.log.winds)]

    def name(self, i):
        if not self.has_boat(i):
            return [NO_SUCH]
        return [len(self.log.names[i])] + self.log.names[i]

    def boat(self, i, m):
        if not self.has_boat(i) or not self.has_moment(m):
            return [NO_SUCH]
        moment = self.log.moments[m]
        return [DONE] + list(moment.hulls[i]) + list(moment.wind)

    def tack(self, i, m):
        if not self.has_boat(i) or not self.has_moment(m):
            return [NO_SUCH]
        return [self.log.moments[m].tacks[i]]

    def has_boat(self, i):
        return i < len(self.log.names)

    def has_moment(self, m):
        return m < len(self.log.moments)
