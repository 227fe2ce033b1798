"""Words of one edition and their partners in another.

Partners are kept in a list: of each word the number of its partner, or None.
"""

from twoeditions.ways import Way


def partners_by(pairs, size):
    partners = [None] * size
    for word, partner in pairs:
        partners[word] = partner
    return partners


# The way is always the one from the edition told earlier: the one the other
# way round may pair other words, and there and back one would come elsewhere.
def find_partners(editions, k, m, costs):
    size = len(editions[k].words)
    if k == m:
        return list(range(size))
    way = Way(editions[min(k, m)].words, editions[max(k, m)].words, costs)
    pairs = way.pairs()
    if k > m:
        pairs = [(later, earlier) for earlier, later in pairs]
    return partners_by(pairs, size)


def those_there(partners):
    return [partner for partner in partners if partner is not None]


def count_same(words, partners, other_words):
    same = 0
    for word, partner in zip(words, partners):
        if partner is not None and other_words[partner] == word:
            same += 1
    return same


# Given the partners of the words ahead, the number that a word just behind
# the gap has.
def gap_behind(partners):
    there = those_there(partners)
    return there[-1] + 1 if there else 0
