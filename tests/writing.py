"""Calls written as the interface asks, and answers taken apart again."""

from twoeditions.editions import answers

TOP = 4294967295


def begins():
    return [0]


def edition(words):
    return [1, len(words)] + list(words)


def lines(k, counts):
    return [2, k, len(counts)] + list(counts)


def pages(k, counts):
    return [3, k, len(counts)] + list(counts)


def costs(other, out, into):
    return [4, other, out, into]


def where(k, number):
    return [5, k, number]


def find(k, page, line, m):
    return [6, k, page, line, m]


def word(k, number, m):
    return [7, k, number, m]


def table(k, m):
    return [8, k, m]


def agree(k, m):
    return [9, k, m]


def joined(calls):
    return [number for call in calls for number in call]


def taken_apart(numbers):
    parts = []
    place = 0
    while place < len(numbers):
        end = place + 1 + numbers[place]
        if end > len(numbers):
            raise AssertionError(f"an answer is cut off: {numbers}")
        parts.append(numbers[place + 1:end])
        place = end
    return parts


def answered(*calls):
    """The answers of the calls, a list of numbers each."""
    return taken_apart(answers(joined(calls)))


def last(*calls):
    """The answer of the last call alone."""
    return answered(*calls)[-1]


def firsts(*calls):
    """The answers of calls that answer one number each."""
    parts = answered(*calls)
    for part in parts:
        if len(part) != 1:
            raise AssertionError(f"not one number alone: {part}")
    return [part[0] for part in parts]
