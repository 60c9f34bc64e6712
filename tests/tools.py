"""Values with small changes, and the time that a call takes."""

from time import perf_counter

from tests.oracle import JUNK

# A call takes a few thousandths of a second; the rest is for a busy machine.
PROMPT = 2


def promptly(function, *arguments):
    """Returns the result of the call, and fails if it took too long."""
    start = perf_counter()
    result = function(*arguments)
    taken = perf_counter() - start
    if taken >= PROMPT:
        raise AssertionError(f"{function.__name__}{arguments} took {taken} seconds")
    return result


def outcome(function, *arguments, **named):
    """Returns ("returns", result), or ("raises", name, fields) of the error."""
    try:
        return ("returns", function(*arguments, **named))
    except Exception as error:
        return ("raises", error.__class__.__name__, dict(vars(error)))


def changed(value):
    """Yields the value with one part, at any depth, replaced, removed or repeated."""
    for junk in JUNK + (0, 1, 2, 10 ** 30, ((), ()), ((0,), ()), ((), (0,)), "totals"):
        yield junk
    if type(value) is int:
        yield from (value + 1, value - 1, bool(value))
    if type(value) is tuple:
        yield list(value)
        yield value[::-1]
        for at, part in enumerate(value):
            yield value[:at] + value[at + 1:]
            yield value[:at] + (part,) + value[at:]
            for other in changed(part):
                yield value[:at] + (other,) + value[at + 1:]


def with_bools(value):
    """Yields the value with one 0 or 1, at any depth, replaced by False or True."""
    if type(value) is int and value in (0, 1):
        yield bool(value)
    if type(value) is tuple:
        for at, part in enumerate(value):
            for other in with_bools(part):
                yield value[:at] + (other,) + value[at + 1:]


def with_lists(value):
    """Yields the value with one tuple, at any depth, replaced by a list."""
    if type(value) is tuple:
        yield list(value)
        for at, part in enumerate(value):
            for other in with_lists(part):
                yield value[:at] + (other,) + value[at + 1:]


def view(desk):
    """Returns all that a desk tells without an argument, or with each version."""
    versions = [desk.state(version=version) for version in range(len(desk) + 1)]
    return (desk.rules, desk.filling, desk.total, desk.totals, len(desk), str(desk), desk.edits(), versions)


def same(one, other):
    """Whether they are equal, and bools only to bools."""
    return repr(one) == repr(other)
