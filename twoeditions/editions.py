"""Calls written in one list of whole numbers, and their answers in another."""

from twoeditions.shelf import Shelf

BEGINS = 0
EDITION = 1
LINES = 2
PAGES = 3
COSTS = 4


class UnknownCall(ValueError):
    pass


class Reader:
    def __init__(self, calls):
        self.calls = calls
        self.position = 0

    def has_more(self):
        return self.position < len(self.calls)

    def take_number(self):
        number = self.calls[self.position]
        self.position += 1
        return number

    # A slice is a copy, so what is kept of a row isn't the caller's own list.
    def take_row(self):
        size = self.take_number()
        start = self.position
        self.position += size
        return self.calls[start:self.position]


def answer_counts(call, reader, shelf):
    k = reader.take_number()
    counts = reader.take_row()
    if call == LINES:
        return shelf.set_lines(k, counts)
    return shelf.set_pages(k, counts)


def answer_costs(reader, shelf):
    other = reader.take_number()
    out = reader.take_number()
    into = reader.take_number()
    return shelf.set_costs(other, out, into)


def answer_call(reader, shelf):
    call = reader.take_number()
    if call == BEGINS:
        return shelf.begin()
    if call == EDITION:
        return shelf.add_edition(reader.take_row())
    if call == LINES or call == PAGES:
        return answer_counts(call, reader, shelf)
    if call == COSTS:
        return answer_costs(reader, shelf)
    raise UnknownCall(f"no call has the number {call}")


def answers(calls):
    reader = Reader(calls)
    shelf = Shelf()
    written = []
    while reader.has_more():
        answer = answer_call(reader, shelf)
        written.append(len(answer))
        written.extend(answer)
    return written
