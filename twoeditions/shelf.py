"""The editions that the calls are about, and what the steps of a way cost."""

from twoeditions.layout import Edition
from twoeditions.partners import count_same, find_partners, gap_behind, those_there

MOST_EDITIONS = 4
MOST_WORDS = 80
LARGEST_WORD = 99999
LARGEST_COST = 100
FIRST_COSTS = (2, 2, 2)

WRONG_FORM = -1
NO_SUCH_EDITION = -2
NO_ROOM = -5
NO_SUCH_PLACE = -6


def are_words(words):
    if not 1 <= len(words) <= MOST_WORDS:
        return False
    return min(words) >= 1 and max(words) <= LARGEST_WORD


# No edition is without words, so an empty row of sizes never makes a whole.
def make_whole(sizes, whole):
    return 0 not in sizes and sum(sizes) == whole


# Each call is answered with a list, since a refusal is one number alone
# while other answers have further numbers behind the first.
class Shelf:
    def __init__(self):
        self.editions = []
        self.costs = FIRST_COSTS

    def begin(self):
        self.editions = []
        self.costs = FIRST_COSTS
        return [0]

    def has_edition(self, k):
        return k < len(self.editions)

    def has_both(self, k, m):
        return self.has_edition(k) and self.has_edition(m)

    def partners_of(self, k, m):
        return find_partners(self.editions, k, m, self.costs)

    # Wrong words are told ahead of a lack of room, also where both hold.
    def add_edition(self, words):
        if not are_words(words):
            return [WRONG_FORM]
        number = len(self.editions)
        if number == MOST_EDITIONS:
            return [NO_ROOM]
        self.editions.append(Edition(words))
        return [number]

    def set_lines(self, k, counts):
        if not self.has_edition(k):
            return [NO_SUCH_EDITION]
        edition = self.editions[k]
        if not make_whole(counts, len(edition.words)):
            return [WRONG_FORM]
        edition.line_sizes = counts
        # The pages told before were pages of other lines.
        edition.page_sizes = [len(counts)]
        return [len(counts)]

    def set_pages(self, k, counts):
        if not self.has_edition(k):
            return [NO_SUCH_EDITION]
        edition = self.editions[k]
        if not make_whole(counts, len(edition.line_sizes)):
            return [WRONG_FORM]
        edition.page_sizes = counts
        return [len(counts)]

    def set_costs(self, other, out, into):
        if min(other, out, into) < 1 or max(other, out, into) > LARGEST_COST:
            return [WRONG_FORM]
        self.costs = (other, out, into)
        return [0]

    def where(self, k, word):
        if not self.has_edition(k):
            return [NO_SUCH_EDITION]
        edition = self.editions[k]
        if not edition.has_word(word):
            return [NO_SUCH_PLACE]
        return [0] + edition.place_of(word)

    def find_line(self, k, page, line, m):
        if not self.has_both(k, m):
            return [NO_SUCH_EDITION]
        edition = self.editions[k]
        if not edition.has_line(page, line):
            return [NO_SUCH_PLACE]
        return self.find_words(k, edition.line_start(page, line), edition.line_start(page, line + 1), m)

    def find_word(self, k, word, m):
        if not self.has_both(k, m):
            return [NO_SUCH_EDITION]
        if not self.editions[k].has_word(word):
            return [NO_SUCH_PLACE]
        return self.find_words(k, word, word + 1, m)

    def find_words(self, k, start, end, m):
        partners = self.partners_of(k, m)
        target = self.editions[m]
        there = those_there(partners[start:end])
        if there:
            same = count_same(self.editions[k].words[start:end], partners[start:end], target.words)
            return [0, len(there), same] + target.place_of(there[0]) + target.place_of(there[-1])
        gap = gap_behind(partners[:start])
        return [1] + target.place_of(gap) if target.has_word(gap) else [1]

    def table(self, k, m):
        if not self.has_both(k, m):
            return [NO_SUCH_EDITION]
        edition = self.editions[k]
        target = self.editions[m]
        partners = self.partners_of(k, m)
        answer = [len(edition.page_sizes)]
        for page in range(len(edition.page_sizes)):
            there = those_there(partners[edition.page_start(page):edition.page_start(page + 1)])
            if there:
                answer.extend([target.page_of(there[0]) + 1, target.page_of(there[-1]) + 1])
            else:
                answer.extend([0, 0])
        return answer

    def agree(self, k, m):
        if not self.has_both(k, m):
            return [NO_SUCH_EDITION]
        partners = self.partners_of(k, m)
        same = count_same(self.editions[k].words, partners, self.editions[m].words)
        return [len(those_there(partners)), same]
