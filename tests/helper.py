"""Calls written as texts and numbers, and answers taken apart call by call."""

from boatlog.desk import answers

MOST = 4294967295

FLEET = (
    "boat ann\n"
    "boat b2\n"
    "wind 0 -1\n"
    "at 1 1 0 0 -3 5 -2 4\n"
    "at 1 0 0 0 -3 6 -2 4\n"
    "wind 2 0\n"
    "wind 1 1\n"
    "at 0 1 0 0 7 7 6 6\n"
)


def signs(text):
    return list(text if isinstance(text, bytes) else text.encode("ascii"))


def take(text):
    return [0, len(text)] + signs(text)


def more(text):
    return [1, len(text)] + signs(text)


def text():
    return [2]


def sizes():
    return [3]


def name(i):
    return [4, i]


def boat(i, m):
    return [5, i, m]


def tack(i, m):
    return [6, i, m]


def apart(told):
    """The flat list of answers as one list for each call."""
    parts = []
    place = 0
    while place < len(told):
        behind = place + 1 + told[place]
        if behind > len(told):
            raise AssertionError("an answer is cut off")
        parts.append(told[place + 1:behind])
        place = behind
    return parts


def ask(*calls):
    flat = [number for call in calls for number in call]
    parts = apart(answers(flat))
    if len(parts) != len(calls):
        raise AssertionError("not one answer for each call")
    return parts


def ask_last(*calls):
    return ask(*calls)[-1]


def text_told(told):
    """What a log's text is, as it follows from the answer of text."""
    return [len(signs(told))] + signs(told)


def numbered(count):
    """The lines of so many boats."""
    return "".join(f"boat b{k}\n" for k in range(count))


def hulls(count, hull="1 1 0 0"):
    """The at of so many boats with one and the same hull."""
    return "at " + " ".join([hull] * count) + "\n"
