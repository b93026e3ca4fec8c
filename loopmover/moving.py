"""What goes ahead of its loop, and the program that comes of it."""

from loopmover.rows import BLOCKS, may_fail, reads, sets, speaks


def count_setters(body):
    """How many rows of a body set each name, what stands in a row counted to it."""
    setters = {}
    for row in body:
        for name in sets([row]):
            setters[name] = setters.get(name, 0) + 1
    return setters


class Look:
    """What a look through the rows of a body, in order, has found so far."""

    def __init__(self, body):
        # How many rows set each name that stay, may still stay, or stand behind: all but those that go ahead.
        self.setters = count_setters(body)
        # The rest is about the rows that stay.
        self.asked = {}
        self.failing = False
        self.speaking = False

    def goes_ahead(self, row):
        """Whether the next row goes ahead."""
        if row[0] != "let" or self.failing:
            return False
        if self.speaking and may_fail([row]):
            return False
        to = row[1]
        # One of those that set the name is this row itself.
        if self.setters[to] > 1 or to in self.asked:
            return False
        return all([self.setters.get(name, 0) == 0 for name in reads([row])])

    def send_ahead(self, row):
        """Takes note of a row that goes ahead."""
        self.setters[row[1]] -= 1

    def keep(self, row):
        """Takes note of a row that stays."""
        for name in reads([row]):
            self.asked[name] = True
        self.failing = self.failing or may_fail([row])
        self.speaking = self.speaking or speaks([row])


def split_body(body):
    """The rows of a body that go ahead and those that stay, with the very lists that stand in them."""
    look = Look(body)
    ahead = []
    stay = []
    for row in body:
        if look.goes_ahead(row):
            look.send_ahead(row)
            ahead.append(row)
        else:
            look.keep(row)
            stay.append(row)
    return ahead, stay


def copied(rows):
    """The same rows, in lists of their own at any depth."""
    found = []
    for row in rows:
        if row[0] in BLOCKS:
            found.append((row[0], row[1], copied(row[2])))
        else:
            found.append(row)
    return found


def parted(body):
    """The rows of the body of a loop or again that go ahead, and those that stay."""
    return split_body(copied(body))


def moved_block(word, test, body):
    """The rows that stand in the place of a block, by its rows, which were moved."""
    if word == "when":
        return [("when", test, body)]
    ahead, stay = split_body(body)
    if word == "loop" and len(ahead) == 0:
        return [("loop", test, stay)]
    found = ahead + [("again", test, stay)]
    # A loop that is never entered must not do what goes ahead.
    return [("when", test, found)] if word == "loop" else found


def moved(rows):
    """The moved program, in lists of its own at any depth."""
    found = []
    for row in rows:
        if row[0] in BLOCKS:
            found.extend(moved_block(row[0], row[1], moved(row[2])))
        else:
            found.append(row)
    return found
