"""One edition: its words, and how they stand in lines and pages."""


# A part is a line of so many words or a page of so many lines.
def start_of(sizes, part):
    return sum(sizes[:part])


def part_holding(sizes, number):
    part = 0
    end = sizes[0]
    while number >= end:
        part += 1
        end += sizes[part]
    return part


class Edition:
    def __init__(self, words):
        self.words = words
        self.line_sizes = [len(words)]
        self.page_sizes = [1]

    def has_word(self, word):
        return word < len(self.words)

    def has_line(self, page, line):
        return page < len(self.page_sizes) and line < self.page_sizes[page]

    # Lines are numbered anew on each page, and their sizes through the edition.
    # So the line behind a page's last one is the next page's first one, and
    # where one line or page ends, the next one's start tells.
    def line_start(self, page, line):
        return start_of(self.line_sizes, start_of(self.page_sizes, page) + line)

    def page_start(self, page):
        return self.line_start(page, 0)

    def page_of(self, word):
        return part_holding(self.page_sizes, part_holding(self.line_sizes, word))

    def place_of(self, word):
        row = part_holding(self.line_sizes, word)
        page = part_holding(self.page_sizes, row)
        return [page, row - start_of(self.page_sizes, page), word - start_of(self.line_sizes, row)]
