"""The desk, the calls on it, and what each of them answers.

Each call is a function of the desk and of the call's numbers, and answers a list of numbers.
"""

from whatmustbe.always import always_kept, always_sub
from whatmustbe.certain import certain_directions, certain_nodes, sources, wrong_nodes
from whatmustbe.chains import certain_starts
from whatmustbe.following import Laws
from whatmustbe.mending import fewest_to_drop
from whatmustbe.words import EDGE, KIND, NEVER, NEVERROLE, ROLE, SUB
from whatmustbe.words import is_basic, is_direction, is_kind, is_label, is_node

NO_SUCH_NUMBER = -1
NOT_THERE = -2
FROM_NOTHING = -3
TOLD_ALREADY = -4
FULL = -5

MOST_TOLD = 14
MOST_RULES = 12
MOST_STEPS = 4


class Desk:
    """What's told and the rules, each in their order."""

    def __init__(self):
        self.told = []
        self.rules = []


def tell(desk, thing):
    if thing in desk.told:
        return [TOLD_ALREADY]
    if len(desk.told) == MOST_TOLD:
        return [FULL]
    desk.told.append(thing)
    return [len(desk.told) - 1]


def add_rule(desk, rule):
    if len(desk.rules) == MOST_RULES:
        return [FULL]
    desk.rules.append(rule)
    return [len(desk.rules) - 1]


def add_basic_rule(desk, word, numbers):
    b = (numbers[0], numbers[1])
    c = (numbers[2], numbers[3])
    if not (is_basic(b) and is_basic(c)):
        return [NO_SUCH_NUMBER]
    return add_rule(desk, (word, b, c))


def add_direction_rule(desk, word, numbers):
    r = numbers[0]
    s = numbers[1]
    if not (is_direction(r) and is_direction(s)):
        return [NO_SUCH_NUMBER]
    return add_rule(desk, (word, r, s))


def take_out(row, n):
    if n >= len(row):
        return [NOT_THERE]
    row.pop(n)
    return [len(row)]


def kind(desk, numbers):
    x = numbers[0]
    k = numbers[1]
    if not (is_node(x) and is_kind(k)):
        return [NO_SUCH_NUMBER]
    return tell(desk, (KIND, x, k))


def edge(desk, numbers):
    x = numbers[0]
    a = numbers[1]
    y = numbers[2]
    if not (is_node(x) and is_label(a) and is_node(y)):
        return [NO_SUCH_NUMBER]
    return tell(desk, (EDGE, x, a, y))


def drop(desk, numbers):
    return take_out(desk.told, numbers[0])


def sub(desk, numbers):
    return add_basic_rule(desk, SUB, numbers)


def role(desk, numbers):
    return add_direction_rule(desk, ROLE, numbers)


def never(desk, numbers):
    return add_basic_rule(desk, NEVER, numbers)


def neverrole(desk, numbers):
    return add_direction_rule(desk, NEVERROLE, numbers)


def strike(desk, numbers):
    return take_out(desk.rules, numbers[0])


def one_or_zero(holds):
    return [1 if holds else 0]


def counted(found):
    return [len(found)] + found


def is_so(desk, numbers):
    x = numbers[0]
    b = (numbers[1], numbers[2])
    if not (is_node(x) and is_basic(b)):
        return [NO_SUCH_NUMBER]
    return one_or_zero(x in certain_nodes(desk.told, Laws(desk.rules), b))


def who(desk, numbers):
    b = (numbers[0], numbers[1])
    if not is_basic(b):
        return [NO_SUCH_NUMBER]
    return counted(certain_nodes(desk.told, Laws(desk.rules), b))


def edges(desk, numbers):
    x = numbers[0]
    y = numbers[1]
    if not (is_node(x) and is_node(y)):
        return [NO_SUCH_NUMBER]
    return counted(certain_directions(desk.told, Laws(desk.rules), x, y))


def is_step(r, k):
    return is_direction(r) and (k == 0 or is_kind(k))


def are_steps(row):
    if len(row) % 2 == 1 or len(row) > 2 * MOST_STEPS:
        return False
    return all([is_step(row[at], row[at + 1]) for at in range(0, len(row), 2)])


def starts_of(desk, row):
    """The nodes from which the steps of the row, each two numbers, certainly lead."""
    steps = [(row[at], row[at + 1]) for at in range(0, len(row), 2)]
    return certain_starts(desk.told, Laws(desk.rules), steps)


def chain(desk, numbers):
    x = numbers[0]
    row = numbers[2:]
    if not (is_node(x) and are_steps(row)):
        return [NO_SUCH_NUMBER]
    return one_or_zero(x in starts_of(desk, row))


def from_all(desk, numbers):
    row = numbers[1:]
    if not are_steps(row):
        return [NO_SUCH_NUMBER]
    return counted(starts_of(desk, row))


def sound(desk, numbers):
    wrong = wrong_nodes(desk.told, Laws(desk.rules))
    return [1] if len(wrong) == 0 else [0, wrong[0]]


def follows(desk, numbers):
    b = (numbers[0], numbers[1])
    c = (numbers[2], numbers[3])
    if not (is_basic(b) and is_basic(c)):
        return [NO_SUCH_NUMBER]
    return one_or_zero(always_sub(Laws(desk.rules), b, c))


def bad(desk, numbers):
    found = Laws(desk.rules).bad
    answer = [len(found)]
    for b in found:
        answer.extend([b[0], b[1]])
    return answer


def idle(desk, numbers):
    n = numbers[0]
    if n >= len(desk.rules):
        return [NOT_THERE]
    others = desk.rules[:n] + desk.rules[n + 1:]
    return one_or_zero(always_kept(Laws(others), desk.rules[n]))


def whence(desk, numbers):
    x = numbers[0]
    b = (numbers[1], numbers[2])
    if not (is_node(x) and is_basic(b)):
        return [NO_SUCH_NUMBER]
    found = sources(desk.told, Laws(desk.rules), x, b)
    return [FROM_NOTHING] if len(found) == 0 else [found[0]]


def fewest(desk, numbers):
    return counted(fewest_to_drop(desk.told, Laws(desk.rules)))


# All by the call's number: what answers it, how many numbers it has behind that one, and whether a row
# comes behind these, with how many numbers the row has before it.
CALLS = (
    kind, edge, drop, sub, role, never, neverrole, strike, is_so, who,
    edges, chain, from_all, sound, follows, bad, idle, whence, fewest,
)
SIZES = (2, 3, 1, 4, 2, 4, 2, 1, 3, 2, 2, 1, 0, 0, 4, 0, 1, 3, 0)
WITH_ROW = (11, 12)


def call_end(calls, at):
    """Where the call that begins at this place ends."""
    number = calls[at]
    end = at + 1 + SIZES[number]
    return end + 1 + calls[end] if number in WITH_ROW else end


def answers(calls):
    """The answers to the calls, on a desk that is new: of each how many numbers, then these."""
    desk = Desk()
    given = []
    at = 0
    while at < len(calls):
        number = calls[at]
        end = call_end(calls, at)
        answer = CALLS[number](desk, calls[at + 1:end])
        given.append(len(answer))
        given.extend(answer)
        at = end
    return given
