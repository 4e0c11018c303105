"""Many made-up texts, judged and asked beside a second reckoning that is written another way."""

import random
import re
import unittest

from tests.helper import ask, boat, more, name, sizes, tack, take, text

NUMBER = rb"(?:0|-?[1-9][0-9]*)"
FORMS = (
    ("boat", re.compile(rb"boat ([a-z0-9]{1,12})", re.S)),
    ("wind", re.compile(rb"wind((?: " + NUMBER + rb"){2})", re.S)),
    ("at", re.compile(rb"at((?:(?: " + NUMBER + rb"){4}){1,64})", re.S)),
)


def read(line):
    for kind, form in FORMS:
        match = form.fullmatch(line)
        if match and kind == "boat":
            return kind, match.group(1)
        if match:
            numbers = [int(word) for word in match.group(1).split()]
            if max(abs(number) for number in numbers) <= 2 ** 20:
                return kind, numbers
    return None, None


def course(at, i):
    return complex(at[4 * i] - at[4 * i + 2], at[4 * i + 1] - at[4 * i + 3])


def reasons(lines, kind, told):
    """All the reasons that hold of a formed line behind lines that are a log."""
    found = set()
    boats = [line[1] for line in lines if line[0] == "boat"]
    winds = [line[1] for line in lines if line[0] == "wind"]
    ats = [line[1] for line in lines if line[0] == "at"]
    if kind == "boat":
        found |= {3} if winds or ats else set()
        found |= {4} if told in boats else set()
        found |= {2} if len(boats) >= 64 else set()
    elif kind == "wind":
        found |= set() if boats else {3}
        found |= {4} if told == [0, 0] or told == (winds or [None])[-1] else set()
    else:
        found |= {3} if not winds or len(told) != 4 * len(boats) else set()
        for i in range(len(told) // 4):
            now = course(told, i)
            found |= {4} if now == 0 else set()
            if ats and 4 * i < len(ats[-1]):
                turned = now * course(ats[-1], i).conjugate()
                found |= {4} if turned.imag == 0 and turned.real < 0 else set()
    return found


def judged(log):
    """The lines of a log, or its fault."""
    lines = []
    pieces = log.split(b"\n")
    for number, piece in enumerate(pieces[:-1]):
        kind, told = read(piece)
        found = reasons(lines, kind, told) if kind else {1}
        for why in (1, 3, 4, 2):
            if why in found:
                return None, [-6, number, why]
        lines.append((kind, told))
    if pieces[-1]:
        return None, [-6, len(pieces) - 1, 1]
    return lines, [0]


def tack_of(ats, winds, i, m):
    while m >= 0:
        lean = (course(ats[m], i).conjugate() * complex(*winds[m])).imag
        if lean != 0:
            return 1 if lean > 0 else 2
        m -= 1
    return 1


def expected(lines, log):
    """The answers of text, sizes, and then name, boat and tack one beyond all that is there."""
    boats = [line[1] for line in lines if line[0] == "boat"]
    ats, blowing = [], []
    for kind, told in lines:
        wind = told if kind == "wind" else wind if kind == "at" else None
        if kind == "at":
            ats.append(told)
            blowing.append(wind)
    told = [[len(log)] + list(log), [0, len(boats), len(ats), sum(line[0] == "wind" for line in lines)]]
    for i in range(len(boats) + 1):
        told.append([len(boats[i])] + list(boats[i]) if i < len(boats) else [-4])
        for m in range(len(ats) + 1):
            there = i < len(boats) and m < len(ats)
            told.append([0] + ats[m][4 * i:4 * i + 4] + blowing[m] if there else [-4])
            told.append([tack_of(ats, blowing, i, m)] if there else [-4])
    return told


def questions(boats, moments):
    calls = [text(), sizes()]
    for i in range(boats + 1):
        calls.append(name(i))
        for m in range(moments + 1):
            calls += [boat(i, m), tack(i, m)]
    return calls


def made_line(chance, boats):
    """A line that can mostly stand, with small numbers, so that clashes and headings in the wind are often."""
    kind = chance.choice(("wind", "at", "at", "at"))
    count = 2 if kind == "wind" else 4 * boats
    if kind == "at" and chance.random() < 0.03:
        count += chance.choice((-4, -1, 1, 4))
    return " ".join([kind] + [str(chance.randint(-2, 2)) for k in range(count)]) + "\n"


def made_log(chance):
    boats = chance.randint(1, 3)
    lines = [f"boat {chance.choice('abcdefgh')}{k}\n" for k in range(boats)]
    lines.append("wind 1 0\n" if chance.random() < 0.9 else "")
    lines += [made_line(chance, boats) for k in range(chance.randint(0, 8))]
    return "".join(lines).encode("ascii")


def spoiled(chance, log):
    """The log with one byte or one line put in, left out or put in another's place."""
    pieces = log.splitlines(keepends=True) if chance.random() < 0.5 else [bytes([sign]) for sign in log]
    if not pieces:
        return log
    k = chance.randrange(len(pieces))
    other = chance.choice(pieces) if chance.random() < 0.7 else chance.choice((b" ", b"-", b"0", b"\n", b"\x80"))
    way = chance.randrange(3)
    return b"".join(pieces[:k] + ([other] if way else []) + pieces[k + (way != 1):])


class BesideTheModel(unittest.TestCase):
    def check(self, log, cut):
        lines, answer = judged(log)
        head = b"".join(log.splitlines(keepends=True)[:cut])
        head_lines, head_answer = judged(head)
        held, held_lines = (log, lines) if lines is not None else (b"", [])
        asked = questions(sum(line[0] == "boat" for line in held_lines), sum(line[0] == "at" for line in held_lines))
        self.assertEqual(ask(take(log), *asked), [answer] + expected(held_lines, held), log)
        if head_answer == [0]:
            told = ask(take(head), more(log[len(head):]), text())
            kept = log if lines is not None else head
            self.assertEqual(told, [[0], answer, [len(kept)] + list(kept)], (head, log))

    def test_made_up_texts(self):
        chance = random.Random(26)
        seen = set()
        for k in range(4000):
            log = made_log(chance)
            for times in range(chance.choice((0, 0, 1, 2))):
                log = spoiled(chance, log)
            lines, answer = judged(log)
            seen.add(tuple(answer[2:]))
            self.check(log, chance.randint(0, 8))
        self.assertEqual(seen, {(), (1,), (3,), (4,)})


if __name__ == "__main__":
    unittest.main()
