"""The way from the words of one edition to those of another."""


class Way:
    def __init__(self, first, second, costs):
        self.first = first
        self.second = second
        self.other = costs[0]
        self.out = costs[1]
        self.into = costs[2]

    def pair_cost(self, i, j):
        return 0 if self.first[i] == self.second[j] else self.other

    # A rest is what it costs at least to go on to both ends from word i of the
    # first and word j of the second; behind holds the rests from word i + 1.
    def rests_from(self, i, behind):
        rests = [0] * len(behind)
        rests[-1] = behind[-1] + self.out
        for j in range(len(self.second) - 1, -1, -1):
            paired = behind[j + 1] + self.pair_cost(i, j)
            rests[j] = min(paired, behind[j] + self.out, rests[j + 1] + self.into)
        return rests

    # From the ends backwards: of several ways the earliest step decides, so
    # what may follow a step must be known before the step is chosen.
    def all_rests(self):
        size = len(self.second)
        behind = [self.into * (size - j) for j in range(size + 1)]
        rows = [behind]
        for i in range(len(self.first) - 1, -1, -1):
            behind = self.rests_from(i, behind)
            rows.append(behind)
        rows.reverse()
        return rows

    # Where one edition is at its end, no step that is left makes a pair.
    def pairs(self):
        rests = self.all_rests()
        i = 0
        j = 0
        found = []
        while i < len(self.first) and j < len(self.second):
            if rests[i][j] == rests[i + 1][j + 1] + self.pair_cost(i, j):
                found.append((i, j))
                i += 1
                j += 1
            elif rests[i][j] == rests[i + 1][j] + self.out:
                i += 1
            else:
                j += 1
        return found
