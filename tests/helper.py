"""Calls written as texts and numbers, and answers taken apart call by call."""

from boatlog.desk import answers

MOST = 4294967295
FAR = 1048576
LOWEST = -2147483648
HIGHEST = 2147483647

FLEET = (
    "boat ann\n"
    "boat b2\n"
    "wind 0 -1\n"
    "at 1 1 0 0 -3 5 -2 4\n"
    "at 1 0 0 0 -3 6 -2 4\n"
    "wind 2 0\n"
    "wind 1 1\n"
    "at 0 1 0 0 7 7 6 6\n"
)


def signs(text):
    return list(text if isinstance(text, bytes) else text.encode("ascii"))


def take(text):
    return [0, len(text)] + signs(text)


def more(text):
    return [1, len(text)] + signs(text)


def text():
    return [2]


def sizes():
    return [3]


def name(i):
    return [4, i]


def boat(i, m):
    return [5, i, m]


def tack(i, m):
    return [6, i, m]


def next_change(i, m):
    return [7, i, m]


def rounds(i, m, k):
    return [8, i, m, k]


def pair(i, j, m):
    return [9, i, j, m]


def zone(i, m, x, y, k):
    return [10, i, m, x, y, k]


def over(i, m, px, py, qx, qy):
    return [11, i, m, px, py, qx, qy]


def touch(i, j, m):
    return [12, i, j, m]


def apart(told):
    """The flat list of answers as one list for each call."""
    parts = []
    place = 0
    while place < len(told):
        behind = place + 1 + told[place]
        if behind > len(told):
            raise AssertionError("an answer is cut off")
        parts.append(told[place + 1:behind])
        place = behind
    return parts


def ask(*calls):
    flat = [number for call in calls for number in call]
    parts = apart(answers(flat))
    if len(parts) != len(calls):
        raise AssertionError("not one answer for each call")
    return parts


def ask_last(*calls):
    return ask(*calls)[-1]


def ask_of(log, *calls):
    """The answers of calls on an object that holds this log, which must be one."""
    first, *answered = ask(take(log), *calls)
    if first != [0]:
        raise AssertionError(f"the log is refused: {first}")
    return answered


def text_told(told):
    """What a log's text is, as it follows from the answer of text."""
    return [len(signs(told))] + signs(told)


def numbered(count):
    """The lines of so many boats."""
    return "".join(f"boat b{k}\n" for k in range(count))


def hulls(count, hull="1 1 0 0"):
    """The at of so many boats with one and the same hull."""
    return "at " + " ".join([hull] * count) + "\n"


def turning(*headings, wind="0 -1"):
    """The log of one boat with these headings, moment by moment; a text among them is lines of its own."""
    lines = ["boat a\n", f"wind {wind}\n"]
    for heading in headings:
        lines.append(heading if isinstance(heading, str) else f"at {heading[0]} {heading[1]} 0 0\n")
    return "".join(lines)


def sailing(*bows):
    """The log of one boat whose bow is at these places, moment by moment."""
    return "boat a\nwind 0 -1\n" + "".join(f"at {x} {y} {stern_of(x, y)}\n" for x, y in bows)


def stern_of(x, y):
    """To the south of the bow, or at the southern edge beside it."""
    if y > -FAR:
        return f"{x} {y - 1}"
    return f"{x - 1 if x > 0 else x + 1} {y}"


def two(*pairs, wind="0 -1"):
    """The log of two boats with these hulls, moment by moment, each hull as a text."""
    return f"boat a\nboat b\nwind {wind}\n" + "".join(f"at {one} {other}\n" for one, other in pairs)


def made_hull(chance, before, reach):
    """A hull that doesn't clash behind the one before (None at first)."""
    while True:
        hull = [chance.randint(-reach, reach) for k in range(4)]
        u, v = hull[0] - hull[2], hull[1] - hull[3]
        if (u, v) == (0, 0):
            continue
        if before is None:
            return hull
        a, b = before[0] - before[2], before[1] - before[3]
        if a * v != b * u or a * u + b * v > 0:
            return hull


def made_wind(chance, before):
    while True:
        wind = [chance.randint(-2, 2), chance.randint(-2, 2)]
        if wind != [0, 0] and wind != before:
            return wind


def made_fleet(chance, boats, moments, reach=2):
    """The lines of a made-up log, its hulls by moment and boat, its wind by moment; numbers are small, so edges are
    often met."""
    lines = [f"boat b{k}\n" for k in range(boats)]
    wind = made_wind(chance, None)
    lines.append(f"wind {wind[0]} {wind[1]}\n")
    ats, winds = [], []
    for m in range(moments):
        while chance.random() < 0.2:
            wind = made_wind(chance, wind)
            lines.append(f"wind {wind[0]} {wind[1]}\n")
        before = ats[-1] if ats else [None] * boats
        ats.append([made_hull(chance, before[i], reach) for i in range(boats)])
        winds.append(wind)
        lines.append("at " + " ".join(str(number) for hull in ats[-1] for number in hull) + "\n")
    return lines, ats, winds
