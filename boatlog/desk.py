"""The desk: a list of calls comes in, what they are answered goes out."""

from boatlog.book import Book

TAKE = 0
MORE = 1
TEXT = 2
SIZES = 3
NAME = 4
BOAT = 5
TACK = 6
NEXT = 7
ROUND = 8
PAIR = 9
ZONE = 10
OVER = 11

# By a call's number, for those without a row: how many numbers stand behind it.
ARGUMENTS = {2: 0, 3: 0, 4: 1, 5: 2, 6: 2, 7: 2, 8: 3, 9: 3, 10: 5, 11: 6, 12: 3}


def answers(calls):
    book = Book()
    told = []
    place = 0
    while place < len(calls):
        first = first_argument(calls, place)
        behind = first + count_arguments(calls, place)
        answer = answer_one(book, calls[place], calls[first:behind])
        told.append(len(answer))
        told.extend(answer)
        place = behind
    return told


def has_row(call):
    return call == TAKE or call == MORE


def first_argument(calls, place):
    return place + 2 if has_row(calls[place]) else place + 1


def count_arguments(calls, place):
    call = calls[place]
    return calls[place + 1] if has_row(call) else ARGUMENTS[call]


def answer_one(book, call, given):
    if call == TAKE:
        return book.take(given)
    if call == MORE:
        return book.more(given)
    if call == TEXT:
        return book.text()
    if call == SIZES:
        return book.sizes()
    if call == NAME:
        return book.name(given[0])
    if call == BOAT:
        return book.boat(given[0], given[1])
    if call == TACK:
        return book.tack(given[0], given[1])
    return answer_sailing(book, call, given)


def answer_sailing(book, call, given):
    """The calls that compare moments, boats and places."""
    if call == NEXT:
        return book.next_change(given[0], given[1])
    if call == ROUND:
        return book.rounds_made(given[0], given[1], given[2])
    if call == PAIR:
        return book.pair(given[0], given[1], given[2])
    if call == ZONE:
        return book.zone(given[0], given[1], (given[2], given[3]), given[4])
    if call == OVER:
        return book.over(given[0], given[1], (given[2], given[3]), (given[4], given[5]))
    return book.touch(given[0], given[1], given[2])
