"""What the document says, written down as plainly as can be, to hold the program's answers against.

Steps are letters, in the order in which the document prefers them: a pair, one left out, one put in.
"""

PAIR, OUT, INTO = "a", "b", "c"


def all_ways(many, others):
    """Every row of steps that uses up so many words of the first and so many of the second."""
    if many == 0 and others == 0:
        return [""]
    ways = []
    if many and others:
        ways += [PAIR + rest for rest in all_ways(many - 1, others - 1)]
    if many:
        ways += [OUT + rest for rest in all_ways(many - 1, others)]
    if others:
        ways += [INTO + rest for rest in all_ways(many, others - 1)]
    return ways


def pairs_of(steps):
    i = j = 0
    pairs = []
    for step in steps:
        if step == PAIR:
            pairs.append((i, j))
        i += step != INTO
        j += step != OUT
    return pairs


def cost_of(steps, first, second, costs):
    other, out, into = costs
    unlike = sum(first[i] != second[j] for i, j in pairs_of(steps))
    return other * unlike + out * steps.count(OUT) + into * steps.count(INTO)


def way_among_all(first, second, costs):
    """The way, by trying every one: for short editions only."""
    return min((cost_of(steps, first, second, costs), steps) for steps in all_ways(len(first), len(second)))


def way(first, second, costs):
    """The way with what it costs, also for long editions: of each two rests the best cost with its steps."""
    other, out, into = costs
    best = {}
    for i in range(len(first), -1, -1):
        for j in range(len(second), -1, -1):
            choices = []
            if i < len(first) and j < len(second):
                choices.append((0 if first[i] == second[j] else other, PAIR, best[i + 1, j + 1]))
            if i < len(first):
                choices.append((out, OUT, best[i + 1, j]))
            if j < len(second):
                choices.append((into, INTO, best[i, j + 1]))
            best[i, j] = min(((cost + rest[0], step + rest[1]) for cost, step, rest in choices), default=(0, ""))
    return best[0, 0]


class Model:
    """Editions with the place of each word written out: (page, line, place)."""

    def __init__(self):
        self.begins()

    def begins(self):
        self.words, self.line_counts, self.places, self.costs = [], [], [], (2, 2, 2)
        return [0]

    def edition(self, words):
        if not 1 <= len(words) <= 80 or any(not 1 <= w <= 99999 for w in words):
            return [-1]
        if len(self.words) == 4:
            return [-5]
        self.words.append(words)
        self.line_counts.append(None)
        self.places.append(None)
        self.lines(len(self.words) - 1, [len(words)])
        return [len(self.words) - 1]

    def lines(self, k, counts):
        if k >= len(self.words):
            return [-2]
        if 0 in counts or sum(counts) != len(self.words[k]):
            return [-1]
        self.line_counts[k] = counts
        self.pages(k, [len(counts)])
        return [len(counts)]

    def pages(self, k, counts):
        if k >= len(self.words):
            return [-2]
        if 0 in counts or sum(counts) != len(self.line_counts[k]):
            return [-1]
        on_pages = [(page, line) for page, count in enumerate(counts) for line in range(count)]
        self.places[k] = [start + (place,) for start, count in zip(on_pages, self.line_counts[k])
                          for place in range(count)]
        return [len(counts)]

    def set_costs(self, *costs):
        if any(not 1 <= cost <= 100 for cost in costs):
            return [-1]
        self.costs = costs
        return [0]

    def partners(self, k, m):
        if k == m:
            return {i: i for i in range(len(self.words[k]))}
        pairs = pairs_of(way(self.words[min(k, m)], self.words[max(k, m)], self.costs)[1])
        return dict(pairs) if k < m else {j: i for i, j in pairs}

    def found(self, k, chosen, m):
        partners = self.partners(k, m)
        there = [i for i in chosen if i in partners]
        if there:
            same = [i for i in there if self.words[k][i] == self.words[m][partners[i]]]
            first, last = self.places[m][partners[there[0]]], self.places[m][partners[there[-1]]]
            return [0, len(there), len(same), *first, *last]
        gap = max([partners[i] + 1 for i in range(chosen[0]) if i in partners], default=0)
        return [1, *(self.places[m] + [()])[gap]]

    def where(self, k, number):
        if k >= len(self.words):
            return [-2]
        return [0, *self.places[k][number]] if number < len(self.words[k]) else [-6]

    def find(self, k, page, line, m):
        if max(k, m) >= len(self.words):
            return [-2]
        chosen = [i for i, place in enumerate(self.places[k]) if place[:2] == (page, line)]
        return self.found(k, chosen, m) if chosen else [-6]

    def word(self, k, number, m):
        if max(k, m) >= len(self.words):
            return [-2]
        return self.found(k, [number], m) if number < len(self.words[k]) else [-6]

    def table(self, k, m):
        if max(k, m) >= len(self.words):
            return [-2]
        partners = self.partners(k, m)
        pages = self.places[k][-1][0] + 1
        answer = [pages]
        for page in range(pages):
            on = [self.places[m][partners[i]][0] + 1 for i, place in enumerate(self.places[k])
                  if place[0] == page and i in partners]
            answer += [on[0], on[-1]] if on else [0, 0]
        return answer

    def agree(self, k, m):
        if max(k, m) >= len(self.words):
            return [-2]
        partners = self.partners(k, m)
        return [len(partners), sum(self.words[k][i] == self.words[m][j] for i, j in partners.items())]

    def answer(self, call):
        """The answer of one call as it's written in the list."""
        number, told = call[0], call[1:]
        if number == 1:
            return self.edition(told[1:])
        if number in (2, 3):
            return (self.lines, self.pages)[number - 2](told[0], told[2:])
        calls = {0: self.begins, 4: self.set_costs, 5: self.where, 6: self.find, 7: self.word, 8: self.table,
                 9: self.agree}
        return calls[number](*told)
