"""The run of a program: what it says, how it ends, and what its names come to."""

# A sum, a difference or a product is what is left of it by this.
ROUND = 1000000

DONE = "done"
TOO_LONG = "too long"
BY_NOUGHT = "by nought"


def come_to(sign, one, other):
    """What two numbers come to by a sign; the other one is not 0 where the sign is that of division."""
    if sign == "+":
        return (one + other) % ROUND
    if sign == "-":
        return (one - other) % ROUND
    if sign == "*":
        return (one * other) % ROUND
    if sign == "<":
        return 1 if one < other else 0
    return one // other


class Progress:
    """How far a run has come. Each method that does something tells whether the run goes on behind it."""

    def __init__(self, given, most):
        self.worths = dict(given)
        self.most = most
        self.steps = 0
        self.said = []
        self.ending = DONE

    def worth(self, part):
        """The value of a name, or the number that stands instead of one."""
        if isinstance(part, str):
            return self.worths.get(part, 0)
        return part

    def stop(self, ending):
        """Ends the run ahead of its last row."""
        self.ending = ending
        return False

    def take_step(self):
        """Counts one step more, where one is left."""
        if self.steps >= self.most:
            return self.stop(TOO_LONG)
        self.steps += 1
        return True

    def do_rows(self, rows):
        """Does rows in order."""
        for row in rows:
            if not self.do_row(row):
                return False
        return True

    def do_row(self, row):
        """Does one row, a block with all that stands in it."""
        word = row[0]
        if word == "when":
            return self.do_when(row[1], row[2])
        if word == "loop":
            return self.do_loop(row[1], row[2])
        if word == "again":
            return self.do_again(row[1], row[2])
        # A let and a say are a step each, and nothing of them is done where none is left.
        if not self.take_step():
            return False
        if word == "let":
            return self.do_let(row)
        self.said.append(self.worth(row[1]))
        return True

    def do_let(self, row):
        """Sets a name, but for a division by 0."""
        _, to, sign, one, other = row
        divisor = self.worth(other)
        if sign == "/" and divisor == 0:
            return self.stop(BY_NOUGHT)
        self.worths[to] = come_to(sign, self.worth(one), divisor)
        return True

    def do_when(self, test, rows):
        """Asks, and does the rows at most once."""
        if not self.take_step():
            return False
        return self.worth(test) == 0 or self.do_rows(rows)

    def do_loop(self, test, rows):
        """Asks ahead of each round."""
        while self.take_step():
            if self.worth(test) == 0:
                return True
            if not self.do_rows(rows):
                return False
        return False

    def do_again(self, test, rows):
        """Asks behind each round."""
        while self.do_rows(rows) and self.take_step():
            if self.worth(test) == 0:
                return True
        return False


def run(rows, given, most):
    """What was said, the ending, the values (None where it is not done), and how many steps were done."""
    progress = Progress(given, most)
    values = progress.worths if progress.do_rows(rows) else None
    return progress.said, progress.ending, values, progress.steps
