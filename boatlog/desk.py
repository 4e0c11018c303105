"""The desk: a list of calls comes in, what they are answered goes out."""

from boatlog.book import Book

TAKE = 0
MORE = 1
TEXT = 2
SIZES = 3
NAME = 4
BOAT = 5

# By a call's number, for those without a row: how many numbers stand behind it.
ARGUMENTS = {2: 0, 3: 0, 4: 1, 5: 2, 6: 2}


def answers(calls):
    book = Book()
    told = []
    place = 0
    while place < len(calls):
        first = first_argument(calls, place)
        behind = first + count_arguments(calls, place)
        answer = answer_one(book, calls[place], calls[first:behind])
        told.append(len(answer))
        told.extend(answer)
        place = behind
    return told


def has_row(call):
    return call == TAKE or call == MORE


def first_argument(calls, place):
    return place + 2 if has_row(calls[place]) else place + 1


def count_arguments(calls, place):
    call = calls[place]
    return calls[place + 1] if has_row(call) else ARGUMENTS[call]


def answer_one(book, call, given):
    if call == TAKE:
        return book.take(given)
    if call == MORE:
        return book.more(given)
    if call == TEXT:
        return book.text()
    if call == SIZES:
        return book.sizes()
    if call == NAME:
        return book.name(given[0])
    if call == BOAT:
        return book.boat(given[0], given[1])
    return book.tack(given[0], given[1])
