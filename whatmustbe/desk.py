"""The desk, the calls on it, and what each of them answers.

Each call is a function of the desk and of the call's numbers, and answers a list of numbers.
"""

from whatmustbe.certain import certain_nodes
from whatmustbe.words import EDGE, KIND, NEVER, NEVERROLE, ROLE, SUB
from whatmustbe.words import is_basic, is_direction, is_kind, is_label, is_node

NO_SUCH_NUMBER = -1
NOT_THERE = -2
TOLD_ALREADY = -4
FULL = -5

MOST_TOLD = 14
MOST_RULES = 12


class Desk:
    """What's told and the rules, each in their order."""

    def __init__(self):
        self.told = []
        self.rules = []


def tell(desk, thing):
    if thing in desk.told:
        return [TOLD_ALREADY]
    if len(desk.told) == MOST_TOLD:
        return [FULL]
    desk.told.append(thing)
    return [len(desk.told) - 1]


def add_rule(desk, rule):
    if len(desk.rules) == MOST_RULES:
        return [FULL]
    desk.rules.append(rule)
    return [len(desk.rules) - 1]


def add_basic_rule(desk, word, numbers):
    b = (numbers[0], numbers[1])
    c = (numbers[2], numbers[3])
    if not (is_basic(b) and is_basic(c)):
        return [NO_SUCH_NUMBER]
    return add_rule(desk, (word, b, c))


def add_direction_rule(desk, word, numbers):
    r = numbers[0]
    s = numbers[1]
    if not (is_direction(r) and is_direction(s)):
        return [NO_SUCH_NUMBER]
    return add_rule(desk, (word, r, s))


def take_out(row, n):
    if n >= len(row):
        return [NOT_THERE]
    row.pop(n)
    return [len(row)]


def kind(desk, numbers):
    x = numbers[0]
    k = numbers[1]
    if not (is_node(x) and is_kind(k)):
        return [NO_SUCH_NUMBER]
    return tell(desk, (KIND, x, k))


def edge(desk, numbers):
    x = numbers[0]
    a = numbers[1]
    y = numbers[2]
    if not (is_node(x) and is_label(a) and is_node(y)):
        return [NO_SUCH_NUMBER]
    return tell(desk, (EDGE, x, a, y))


def drop(desk, numbers):
    return take_out(desk.told, numbers[0])


def sub(desk, numbers):
    return add_basic_rule(desk, SUB, numbers)


def role(desk, numbers):
    return add_direction_rule(desk, ROLE, numbers)


def never(desk, numbers):
    return add_basic_rule(desk, NEVER, numbers)


def neverrole(desk, numbers):
    return add_direction_rule(desk, NEVERROLE, numbers)


def strike(desk, numbers):
    return take_out(desk.rules, numbers[0])


def is_so(desk, numbers):
    x = numbers[0]
    b = (numbers[1], numbers[2])
    if not (is_node(x) and is_basic(b)):
        return [NO_SUCH_NUMBER]
    return [1 if x in certain_nodes(desk.told, desk.rules, b) else 0]


def who(desk, numbers):
    b = (numbers[0], numbers[1])
    if not is_basic(b):
        return [NO_SUCH_NUMBER]
    found = certain_nodes(desk.told, desk.rules, b)
    return [len(found)] + found


# Both by the call's number: what answers it, and how many numbers it has behind that one.
CALLS = (kind, edge, drop, sub, role, never, neverrole, strike, is_so, who)
SIZES = (2, 3, 1, 4, 2, 4, 2, 1, 3, 2)


def answers(calls):
    """The answers to the calls, on a desk that is new: of each how many numbers, then these."""
    desk = Desk()
    given = []
    at = 0
    while at < len(calls):
        number = calls[at]
        end = at + 1 + SIZES[number]
        answer = CALLS[number](desk, calls[at + 1:end])
        given.append(len(answer))
        given.extend(answer)
        at = end
    return given
