"""Programs as lines: how they are written, and how they are read."""

from loopmover.errors import BadLine, TooDeep
from loopmover.rows import BLOCKS, DEEPEST_BLOCK, SIGNS, is_name

END = "end"
# The highest number has so many figures.
MOST_FIGURES = 6


def add_lines(rows, lines):
    """Puts the lines of rows behind those that are there."""
    for row in rows:
        if row[0] in BLOCKS:
            lines.append(f"{row[0]} {row[1]}")
            add_lines(row[2], lines)
            lines.append(END)
        elif row[0] == "let":
            lines.append(f"{row[1]} = {row[3]} {row[2]} {row[4]}")
        else:
            lines.append(f"say {row[1]}")


def told(rows):
    """The lines of a program."""
    lines = []
    add_lines(rows, lines)
    return lines


def writes_number(word):
    """Whether a word is a number, written as it must be."""
    # Too many figures are more than `int` takes; it takes figures of other scripts, which are none here.
    if not 1 <= len(word) <= MOST_FIGURES:
        return False
    if word[0] == "0" and len(word) > 1:
        return False
    return all("0" <= figure <= "9" for figure in word)


def is_worth(word):
    """Whether a word is a name or a number."""
    return is_name(word) or writes_number(word)


def worth_of(word):
    """The name or number that a word writes."""
    return int(word) if writes_number(word) else word


def let_of(words):
    """The let that five words write, or None."""
    to, mark, one, sign, other = words
    if not is_name(to) or mark != "=" or sign not in SIGNS:
        return None
    if not is_worth(one) or not is_worth(other):
        return None
    return ("let", to, sign, worth_of(one), worth_of(other))


def row_of(line):
    """The row that a line writes, a block without rows as yet, or None."""
    words = line.split(" ")
    if len(words) == 5:
        return let_of(words)
    if len(words) != 2:
        return None
    word, part = words
    if word == "say" and is_worth(part):
        return ("say", worth_of(part))
    if word in BLOCKS and is_name(part):
        return (word, part, [])
    return None


class Reader:
    """The program that the lines so far write."""

    def __init__(self):
        # The rows to which the next line belongs, and those around them, the innermost last.
        self.rows = []
        self.around = []

    def read_end(self, at):
        """Takes the line that ends a block, by its number."""
        if len(self.around) == 0:
            raise BadLine(at)
        self.rows = self.around.pop()

    def read_row(self, line, at):
        """Takes any other line, with its number."""
        row = row_of(line)
        if row is None:
            raise BadLine(at)
        if row[0] not in BLOCKS:
            self.rows.append(row)
            return
        if len(self.around) >= DEEPEST_BLOCK:
            raise TooDeep(at)
        self.rows.append(row)
        self.around.append(self.rows)
        self.rows = row[2]


def read(lines):
    """The program that lines write; the first line that is wrong is refused by its number."""
    reader = Reader()
    for at, line in enumerate(lines):
        if line == END:
            reader.read_end(at)
        else:
            reader.read_row(line, at)
    if len(reader.around) > 0:
        raise BadLine(len(lines))
    return reader.rows
