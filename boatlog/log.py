"""A log: its boats, winds and moments, and how lines are judged and added."""

from boatlog.hulls import heading
from boatlog.lines import BOAT, LINE_FEED, WIND, cut, read_line
from boatlog.turns import GYBES, STARBOARD, TACKS, points_into, tack_after, turned_by_half

NO_FAULT = 0
NOT_FORMED = 1
TOO_MUCH = 2
CANNOT_STAND = 3
CLASHES = 4

MOST_BOATS = 64
MOST_MOMENTS = 4096
MOST_WINDS = 4096


class Moment:
    """Hulls and tacks are lists by the boat's number."""

    def __init__(self, hulls, wind, tacks):
        self.hulls = hulls
        self.wind = wind
        self.tacks = tacks

    def heads_into_wind(self, i):
        return points_into(heading(self.hulls[i]), self.wind)

    def change_since(self, before, i):
        """TACKS or GYBES if boat i's tack is another than at the moment before, else None."""
        if self.tacks[i] == before.tacks[i]:
            return None
        if before.heads_into_wind(i) or self.heads_into_wind(i):
            return TACKS
        return GYBES


class Log:
    def __init__(self):
        self.written = []
        self.lines = 0
        self.names = []
        self.winds = []
        self.moments = []

    def copied(self):
        """Its lists can grow without this log's; moments are shared, for they never change."""
        log = Log()
        log.written = list(self.written)
        log.lines = self.lines
        log.names = list(self.names)
        log.winds = list(self.winds)
        log.moments = list(self.moments)
        return log

    def write(self, text):
        """Adds the text's lines, up to its fault if it has one; that's line self.lines then. Tells why."""
        stretches = cut(text, LINE_FEED)
        for line in stretches[:-1]:
            why = self.add_line(line)
            if why != NO_FAULT:
                return why
        if len(stretches[-1]) > 0:
            return NOT_FORMED
        self.written.extend(text)
        return NO_FAULT

    def add_line(self, line):
        read = read_line(line)
        if read is None:
            return NOT_FORMED
        why = self.add_told(read[0], read[1])
        if why == NO_FAULT:
            self.lines += 1
        return why

    def add_told(self, kind, told):
        if kind == BOAT:
            return self.add_boat(told)
        if kind == WIND:
            return self.add_wind(told)
        return self.add_moment(told)

    def add_boat(self, name):
        # No moment comes before the first wind, so winds alone tell of lines of another kind.
        if len(self.winds) > 0:
            return CANNOT_STAND
        if name in self.names:
            return CLASHES
        if len(self.names) == MOST_BOATS:
            return TOO_MUCH
        self.names.append(name)
        return NO_FAULT

    def add_wind(self, wind):
        if len(self.names) == 0:
            return CANNOT_STAND
        if wind == (0, 0) or wind in self.winds[-1:]:
            return CLASHES
        if len(self.winds) == MOST_WINDS:
            return TOO_MUCH
        self.winds.append(wind)
        return NO_FAULT

    def add_moment(self, hulls):
        if len(self.winds) == 0 or len(hulls) != len(self.names):
            return CANNOT_STAND
        if self.hulls_clash(hulls):
            return CLASHES
        if len(self.moments) == MOST_MOMENTS:
            return TOO_MUCH
        self.moments.append(Moment(hulls, self.winds[-1], self.tacks_with(hulls)))
        return NO_FAULT

    def hulls_clash(self, hulls):
        for hull in hulls:
            if heading(hull) == (0, 0):
                return True
        if len(self.moments) == 0:
            return False
        for before, after in zip(self.moments[-1].hulls, hulls):
            if turned_by_half(heading(before), heading(after)):
                return True
        return False

    def tacks_with(self, hulls):
        """The tacks of a next moment with these hulls."""
        if len(self.moments) == 0:
            befores = [STARBOARD for hull in hulls]
        else:
            befores = self.moments[-1].tacks
        wind = self.winds[-1]
        return [tack_after(before, heading(hull), wind) for before, hull in zip(befores, hulls)]
