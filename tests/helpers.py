"""What several tests need: deep programs, and how a call is refused."""

from loopmover import errors


def nested(many, inner, word="loop", test="a"):
    """`many` blocks in one another, with `inner` as the rows of the innermost one."""
    rows = inner
    for _ in range(many):
        rows = [(word, test, rows)]
    return rows


def refusal(call, *parts):
    """The error that a call raises; None where it raises none of the program's errors."""
    try:
        call(*parts)
    except errors.LoopError as error:
        return error
    return None
