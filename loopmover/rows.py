"""The rows of a program: their forms, and what can be told of them without a run."""

from loopmover.errors import BadName, BadNumber, BadRow, TooDeep

# Each first word, with how many parts a row has that begins with it.
LENGTHS = {"let": 5, "say": 2, "when": 3, "loop": 3, "again": 3}
BLOCKS = ("when", "loop", "again")
SIGNS = ("+", "-", "*", "<", "/")

# Lines begin with these words, so they can't be names; "let" stands in no line.
BARRED = ("say", "when", "loop", "again", "end")
LONGEST_NAME = 6
HIGHEST_NUMBER = 999999
DEEPEST_BLOCK = 20


def is_name(thing):
    """Whether a thing is a name."""
    if not isinstance(thing, str) or thing in BARRED:
        return False
    if not 1 <= len(thing) <= LONGEST_NAME:
        return False
    return all("a" <= letter <= "z" for letter in thing)


def is_number(thing):
    """Whether a thing is a number."""
    # True and False are integers to Python, but they are no numbers here.
    if not isinstance(thing, int) or isinstance(thing, bool):
        return False
    return 0 <= thing <= HIGHEST_NUMBER


def check_form(row):
    """Refuses what is no tuple of one of the forms, by its first word and its length."""
    if not isinstance(row, tuple) or len(row) == 0:
        raise BadRow("a row is a tuple that begins with a word")
    word = row[0]
    if not isinstance(word, str) or word not in LENGTHS:
        raise BadRow("no row begins like this")
    if len(row) != LENGTHS[word]:
        raise BadRow(f"a row that begins with {word} has {LENGTHS[word]} parts")


def check_name(thing):
    """Refuses what is no name."""
    if not is_name(thing):
        raise BadName("a name is wanted")


def check_sign(thing):
    """Refuses what is no sign."""
    # Anything may stand here, also what can't be compared with a text.
    if not isinstance(thing, str) or thing not in SIGNS:
        raise BadRow("a sign is wanted")


def check_worth(thing):
    """Refuses what is neither a name nor a number."""
    if isinstance(thing, str):
        check_name(thing)
    elif not is_number(thing):
        raise BadNumber("a name or a number is wanted")


def check_let(row):
    """Refuses the first part of a let that is wrong."""
    check_name(row[1])
    check_sign(row[2])
    check_worth(row[3])
    check_worth(row[4])


def look_at_row(row, looked, depth):
    """How many rows were looked at behind this one, with `looked` ahead and `depth` blocks around it."""
    check_form(row)
    if row[0] in BLOCKS:
        if depth == DEEPEST_BLOCK:
            raise TooDeep(looked)
        check_name(row[1])
        return look_at_rows(row[2], looked + 1, depth + 1)
    if row[0] == "let":
        check_let(row)
    else:
        check_worth(row[1])
    return looked + 1


def look_at_rows(rows, looked, depth):
    """How many rows were looked at behind these, with `looked` ahead and `depth` blocks around them."""
    if not isinstance(rows, list):
        raise BadRow("rows stand in a list")
    for row in rows:
        looked = look_at_row(row, looked, depth)
    return looked


def checked(rows):
    """How many rows a program has in all; the first thing that is wrong is refused."""
    return look_at_rows(rows, 0, 0)


def all_rows(rows):
    """The rows of a program at any depth in one list, each block ahead of its rows."""
    found = []
    # A stack, so that no depth is too much here.
    waiting = rows[::-1]
    while waiting:
        row = waiting.pop()
        found.append(row)
        if row[0] in BLOCKS:
            waiting.extend(row[2][::-1])
    return found


def asked_parts(row):
    """The parts of one row, without what stands in it, whose values it asks for."""
    if row[0] == "let":
        return [row[3], row[4]]
    return [row[1]]


def row_may_fail(row):
    """Whether one row may fail by itself, without what stands in it."""
    if row[0] != "let" or row[2] != "/":
        return False
    return isinstance(row[4], str) or row[4] == 0


def reads(rows):
    """The names that some row of a program reads, each once, in the order of texts."""
    found = set()
    for row in all_rows(rows):
        for part in asked_parts(row):
            # In a program each text is a name, also one that is longer than it may be.
            if isinstance(part, str):
                found.add(part)
    return sorted(found)


def sets(rows):
    """The names that some row of a program sets, each once, in the order of texts."""
    found = set()
    for row in all_rows(rows):
        if row[0] == "let":
            found.add(row[1])
    return sorted(found)


def may_fail(rows):
    """Whether some row of a program may fail."""
    return any([row_may_fail(row) for row in all_rows(rows)])


def speaks(rows):
    """Whether some row of a program speaks."""
    return any([row[0] == "say" for row in all_rows(rows)])
