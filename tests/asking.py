"""Writes calls as lists of numbers, and takes the answers apart again."""

from systemrounds.tick import answers

ORDER = [4]
ROUNDS = [5]
UNTOLD = [6]
TIME = [8]
SYSTEMS = [10]
TOP = 4294967295


def system(cost=1, reads=(), writes=()):
    return [0, cost, len(reads), *reads, len(writes), *writes]


def gone(number):
    return [1, number]


def before(first, second):
    return [2, first, second]


def free(first, second):
    return [3, first, second]


def way(first, second):
    return [7, first, second]


def apart(first, second):
    return [9, first, second]


def joined(calls):
    return [number for call in calls for number in call]


def split(numbers):
    """The answers, each as a list without its count."""
    found = []
    place = 0
    while place < len(numbers):
        size = numbers[place]
        answer = numbers[place + 1:place + 1 + size]
        if size < 1 or len(answer) != size:
            raise AssertionError(f"a count of {size} at {place} of {numbers}")
        found.append(answer)
        place += 1 + size
    return found


def ask(*calls):
    found = split(answers(joined(calls)))
    if len(found) != len(calls):
        raise AssertionError(f"{len(found)} answers to {len(calls)} calls")
    return found


def ask_last(*calls):
    return ask(*calls)[-1]


def reader(*kinds, cost=1):
    return system(cost, kinds, [])


def writer(*kinds, cost=1):
    return system(cost, [], kinds)


def plain(count):
    """Systems that clash with nothing."""
    return [system() for place in range(count)]


def rounds_of(answer):
    """The rounds that an answer of rounds tells, as a list of lists."""
    found = []
    place = 1
    while place < len(answer):
        size = answer[place]
        found.append(answer[place + 1:place + 1 + size])
        place += 1 + size
    if len(found) != answer[0] or place != len(answer):
        raise AssertionError(f"not an answer of rounds: {answer}")
    return found
