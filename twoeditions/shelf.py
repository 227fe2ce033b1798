"""The editions that the calls are about, and what the steps of a way cost."""

MOST_EDITIONS = 4
MOST_WORDS = 80
LARGEST_WORD = 99999
LARGEST_COST = 100
FIRST_COSTS = (2, 2, 2)

WRONG_FORM = -1
NO_SUCH_EDITION = -2
NO_ROOM = -5


def are_words(words):
    if not 1 <= len(words) <= MOST_WORDS:
        return False
    return min(words) >= 1 and max(words) <= LARGEST_WORD


# No edition is without words, so an empty row of sizes never makes a whole.
def make_whole(sizes, whole):
    return 0 not in sizes and sum(sizes) == whole


class Edition:
    def __init__(self, words):
        self.words = words
        self.line_sizes = [len(words)]
        self.page_sizes = [1]


# Each call is answered with a list, since a refusal is one number alone
# while other answers have further numbers behind the first.
class Shelf:
    def __init__(self):
        self.editions = []
        self.costs = FIRST_COSTS

    def begin(self):
        self.editions = []
        self.costs = FIRST_COSTS
        return [0]

    def has_edition(self, k):
        return k < len(self.editions)

    # Wrong words are told ahead of a lack of room, also where both hold.
    def add_edition(self, words):
        if not are_words(words):
            return [WRONG_FORM]
        number = len(self.editions)
        if number == MOST_EDITIONS:
            return [NO_ROOM]
        self.editions.append(Edition(words))
        return [number]

    def set_lines(self, k, counts):
        if not self.has_edition(k):
            return [NO_SUCH_EDITION]
        edition = self.editions[k]
        if not make_whole(counts, len(edition.words)):
            return [WRONG_FORM]
        edition.line_sizes = counts
        # The pages told before were pages of other lines.
        edition.page_sizes = [len(counts)]
        return [len(counts)]

    def set_pages(self, k, counts):
        if not self.has_edition(k):
            return [NO_SUCH_EDITION]
        edition = self.editions[k]
        if not make_whole(counts, len(edition.line_sizes)):
            return [WRONG_FORM]
        edition.page_sizes = counts
        return [len(counts)]

    def set_costs(self, other, out, into):
        if min(other, out, into) < 1 or max(other, out, into) > LARGEST_COST:
            return [WRONG_FORM]
        self.costs = (other, out, into)
        return [0]
