"""Exchanges of two pairs of a choice, and chains of choices that are made by them."""

from soldages.logs import is_choice
from soldages.rules import choice_by


def exchanged(choice, first, second):
    """Return the choice after the exchange of two of its pairs, in any order."""
    pairs = list(choice)
    pairs.remove(first)
    pairs.remove(second)
    return sorted(pairs + [(first[0], second[1]), (second[0], first[1])])


def kind_of(first, second):
    """Return the kind of the exchange of two pairs, in any order: "calming", "stirring" or "none"."""
    early, late = sorted([first, second])
    if early[0] == late[0] or late[0] > early[1] or late[0] > late[1]:
        return "none"
    if late[1] < early[1]:
        return "calming"
    if early[1] < late[1]:
        return "stirring"
    return "none"


def chain(log, choice, rule):
    """Return a chain from a choice to the one by the rule, calming for "oldest" and stirring for "newest"."""
    aims = choice_by(log, rule)
    if rule == "newest":
        aims = aims[::-1]
    # Sorting keeps the order among equal days out: the day in comes next that the rule takes next.
    return _led(choice, sorted(aims, key=lambda pair: pair[1]))


def path(log, first, second):
    """Return a chain from one choice of the log to another."""
    return _led(first, sorted(second, key=lambda pair: pair[1]))


def _led(choice, aims):
    """Return a chain from a choice to the one with the pairs of aims, which come in the order of their days out."""
    found = [list(choice)]
    rest = list(choice)
    for aim in aims:
        if aim not in rest:
            # All pairs of the rest leave on the aim's day out or later. So the exchange is allowed. It is calming if
            # the aim has the earliest day in of the rest, and stirring if it has the latest one that can leave then.
            first = [pair for pair in rest if pair[0] == aim[0]][0]
            second = [pair for pair in rest if pair[1] == aim[1]][0]
            rest = exchanged(rest, first, second)
            found.append(exchanged(found[-1], first, second))
        rest.remove(aim)
    return found


def is_chain(log, value):
    """Tell whether a value of any kind is a chain of choices of the log, each exchange changing something."""
    if not isinstance(value, list) or len(value) == 0:
        return False
    if not all([is_choice(log, choice) for choice in value]):
        return False
    return all([_is_step(before, after) for before, after in zip(value, value[1:])])


def _is_step(before, after):
    """Tell whether one exchange that changes something makes a choice from another one."""
    rest = list(after)
    gone = []
    for pair in before:
        if pair in rest:
            rest.remove(pair)
        else:
            gone.append(pair)
    if len(gone) != 2 or kind_of(gone[0], gone[1]) == "none":
        return False
    return exchanged(before, gone[0], gone[1]) == after
