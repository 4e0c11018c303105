"""The lines of a log's text, as lists of bytes: cut apart, and read word by word."""

LINE_FEED = 10
BLANK = 32
MINUS = 45
DIGIT_0 = 48
DIGIT_9 = 57
LETTER_A = 97
LETTER_Z = 122

LONGEST_NAME = 12
FARTHEST = 1048576
HULL_NUMBERS = 4
MOST_NUMBERS = 256

BOAT = "boat"
WIND = "wind"
AT = "at"


def cut(signs, mark):
    """What stands before, between and behind the marks: one stretch more than there are marks."""
    stretches = []
    stretch = []
    for sign in signs:
        if sign == mark:
            stretches.append(stretch)
            stretch = []
        else:
            stretch.append(sign)
    stretches.append(stretch)
    return stretches


def spelled(word):
    return [ord(sign) for sign in word]


def is_digit(sign):
    return DIGIT_0 <= sign <= DIGIT_9


def is_name(word):
    if not 1 <= len(word) <= LONGEST_NAME:
        return False
    return all([is_digit(sign) or LETTER_A <= sign <= LETTER_Z for sign in word])


def read_size(digits):
    """The number that the digits spell, or None if they spell none or one that is too far."""
    if len(digits) == 0 or (digits[0] == DIGIT_0 and len(digits) > 1):
        return None
    size = 0
    for sign in digits:
        if not is_digit(sign):
            return None
        size = size * 10 + sign - DIGIT_0
        # Stopping here keeps the numbers small, however many digits there are.
        if size > FARTHEST:
            return None
    return size


def read_number(word):
    if word[:1] != [MINUS]:
        return read_size(word)
    size = read_size(word[1:])
    if size is None or size == 0:
        return None
    return -size


def read_numbers(words):
    numbers = [read_number(word) for word in words]
    if None in numbers:
        return None
    return numbers


def read_boat(words):
    if len(words) == 1 and is_name(words[0]):
        return (BOAT, words[0])
    return None


def read_wind(words):
    numbers = read_numbers(words)
    if numbers is None or len(numbers) != 2:
        return None
    return (WIND, tuple(numbers))


def read_at(words):
    numbers = read_numbers(words)
    if numbers is None or not HULL_NUMBERS <= len(numbers) <= MOST_NUMBERS:
        return None
    if len(numbers) % HULL_NUMBERS != 0:
        return None
    return (AT, [tuple(numbers[k:k + HULL_NUMBERS]) for k in range(0, len(numbers), HULL_NUMBERS)])


def read_line(line):
    """The kind of a line and what it tells (a name, a wind, the hulls), or None if it isn't formed."""
    # A blank too many leaves a word of no sign, which is neither a name nor a number.
    words = cut(line, BLANK)
    if words[0] == spelled(BOAT):
        return read_boat(words[1:])
    if words[0] == spelled(WIND):
        return read_wind(words[1:])
    if words[0] == spelled(AT):
        return read_at(words[1:])
    return None
