"""How calls and steps are written as numbers, for the tests."""

from viewstable.desk import answers

TOP = 4294967295

LESS, SAME, MORE, OTHER = 0, 1, 2, 3

BEGIN = [0]
BACK = [7]


def keep(col, how, value):
    return [0, col, how, value]


def hide(col, value=0):
    return [1, col, 0, value]


def shift(col, value):
    return [2, col, 0, value]


def joined(lists):
    return [number for numbers in lists for number in numbers]


def view(*numbers):
    return [1, len(numbers), *numbers]


def through(*steps):
    return view(*joined(steps))


def many(number):
    return [2, number]


def row(number, k):
    return [3, number, k]


def find(number, key):
    return [4, number, key]


def write(number, *numbers):
    return [5, number, len(numbers), *numbers]


def drop(number, key):
    return [6, number, key]


def asked(*calls):
    return answers(joined(calls))


def told(*calls):
    """What each of these calls answers, a list each."""
    given = asked(*calls)
    parts = []
    place = 0
    while place < len(given):
        behind = place + 1 + given[place]
        parts.append(given[place + 1:behind])
        place = behind
    assert place == len(given) and len(parts) == len(calls), given
    return parts


def firsts(*calls):
    """The one number that each of these calls answers."""
    parts = told(*calls)
    assert [len(part) for part in parts] == [1] * len(calls), parts
    return [part[0] for part in parts]


def seen(number, *calls):
    """The rows that the view with this number shows behind these calls, as row tells them, one by one."""
    shows = told(*calls, many(number))[-1][0]
    assert shows >= 0, shows
    parts = told(*calls, *[row(number, k) for k in range(shows + 1)])[len(calls):]
    assert parts.pop() == [-2]
    assert [part[0] for part in parts] == [0] * shows, parts
    return [tuple(part[1:]) for part in parts]
