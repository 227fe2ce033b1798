"""Calls written in one list of whole numbers, and their answers in another."""

from twoeditions.shelf import Shelf

BEGINS = 0
EDITION = 1
LINES = 2
PAGES = 3
COSTS = 4
WHERE = 5
FIND = 6
WORD = 7
TABLE = 8
AGREE = 9


class UnknownCall(ValueError):
    pass


class Reader:
    def __init__(self, calls):
        self.calls = calls
        self.position = 0

    def has_more(self):
        return self.position < len(self.calls)

    def take_number(self):
        number = self.calls[self.position]
        self.position += 1
        return number

    # A slice is a copy, so what is kept of a row isn't the caller's own list.
    def take_row(self):
        size = self.take_number()
        start = self.position
        self.position += size
        return self.calls[start:self.position]


def answer_counts(call, reader, shelf):
    k = reader.take_number()
    counts = reader.take_row()
    if call == LINES:
        return shelf.set_lines(k, counts)
    return shelf.set_pages(k, counts)


def answer_costs(reader, shelf):
    other = reader.take_number()
    out = reader.take_number()
    into = reader.take_number()
    return shelf.set_costs(other, out, into)


def answer_place(call, reader, shelf):
    k = reader.take_number()
    word = reader.take_number()
    if call == WHERE:
        return shelf.where(k, word)
    return shelf.find_word(k, word, reader.take_number())


def answer_line(reader, shelf):
    k = reader.take_number()
    page = reader.take_number()
    line = reader.take_number()
    return shelf.find_line(k, page, line, reader.take_number())


def answer_whole(call, reader, shelf):
    k = reader.take_number()
    m = reader.take_number()
    if call == TABLE:
        return shelf.table(k, m)
    return shelf.agree(k, m)


def answer_asked(call, reader, shelf):
    if call == WHERE or call == WORD:
        return answer_place(call, reader, shelf)
    if call == FIND:
        return answer_line(reader, shelf)
    if call == TABLE or call == AGREE:
        return answer_whole(call, reader, shelf)
    raise UnknownCall(f"no call has the number {call}")


def answer_call(reader, shelf):
    call = reader.take_number()
    if call == BEGINS:
        return shelf.begin()
    if call == EDITION:
        return shelf.add_edition(reader.take_row())
    if call == LINES or call == PAGES:
        return answer_counts(call, reader, shelf)
    if call == COSTS:
        return answer_costs(reader, shelf)
    return answer_asked(call, reader, shelf)


def answers(calls):
    reader = Reader(calls)
    shelf = Shelf()
    written = []
    while reader.has_more():
        answer = answer_call(reader, shelf)
        written.append(len(answer))
        written.extend(answer)
    return written
