"""A plain model of the document for the tests: it is handed tables and dicts, and asks nothing of the program."""

from itertools import product

from anycut.rules import Rule
from anycut.services import Service

NAMES = "abcdefghijkl"


def singly(names, table, row, state):
    """Answers and state behind a row done one by one."""
    answers = []
    for name in row:
        state, answer = table[state][names.index(name)]
        answers.append(answer)
    return answers, state


def left(early, keyed, batch):
    """Indexes of the calls of a batch that are neither early nor skipped."""
    told = []
    for at, name in enumerate(batch):
        if name in early:
            continue
        behind = [other for other in batch[at + 1:] if other not in early]
        if name in keyed and any(keyed.get(other) == keyed[name] for other in behind):
            continue
        told.append(at)
    return told


def by_rule(names, table, rule, batch, state):
    """Answers and state behind a batch done by a rule, given as (early, keyed, ranks)."""
    early, keyed, ranks = rule
    answers = [None] * len(batch)
    for at, name in enumerate(batch):
        if name in early:
            answers[at] = table[state][names.index(name)][1]
    kept = left(early, keyed, batch)
    for rank in sorted({ranks.get(batch[at], 0) for at in kept}):
        for at in kept:
            if ranks.get(batch[at], 0) == rank:
                state, answers[at] = table[state][names.index(batch[at])]
    return answers, state


def coming(names, table):
    """States of a table that come about."""
    known = [0]
    for state in known:
        for onward, _ in table[state]:
            if onward not in known:
                known.append(onward)
    return known


def least_unlike(names, table, one, other, most):
    """First (row, batch) of at most so many calls together for which two rules differ."""
    for total in range(1, most + 1):
        rows = {length: [list(row) for row in product(names, repeat=length)] for length in range(total)}
        for length in range(1, total + 1):
            for calls in product(names, repeat=length):
                batch = list(calls)
                wrong = [
                    state
                    for state in coming(names, table)
                    if by_rule(names, table, one, batch, state) != by_rule(names, table, other, batch, state)
                ]
                for row in rows[total - length] if wrong else []:
                    if singly(names, table, row, 0)[1] in wrong:
                        return row, batch
    return None


def least_wrong_length(names, table, rule, most):
    """Length of the shortest batch, of at most so many calls, for which a rule is wrong."""
    for length in range(1, most + 1):
        for calls in product(names, repeat=length):
            for state in coming(names, table):
                batch = list(calls)
                if by_rule(names, table, rule, batch, state) != singly(names, table, batch, state):
                    return length
    return None


def without(rule, names):
    """A rule, given as (early, keyed, ranks), without some calls."""
    early, keyed, ranks = rule
    return (
        [name for name in early if name not in names],
        {name: keyed[name] for name in keyed if name not in names},
        {name: ranks[name] for name in ranks if name not in names},
    )


def made(rule):
    """The rule of the program for (early, keyed, ranks)."""
    early, keyed, ranks = rule
    return Rule(early, keyed, ranks)


def some_service(source, most_states, most_calls):
    """A service by a source of numbers, as (names, table): calls that do nothing or settle it are frequent."""
    states, calls = source.randint(1, most_states), source.randint(1, most_calls)
    columns = []
    for _ in range(calls):
        kind = source.randrange(4)
        onward = [source.randrange(states) for _ in range(states)]
        if kind == 0:
            onward = list(range(states))
        if kind == 1:
            onward = onward[:1] * states
        answers = [source.choice([None, 0, 1]) if source.randrange(3) == 0 else None] * states
        if source.randrange(3) == 0:
            answers = [source.choice([None, 0, 1]) for _ in range(states)]
        columns.append(list(zip(onward, answers)))
    table = [[column[state] for column in columns] for state in range(states)]
    return list(NAMES[:calls]), table


def some_rule(source, names, keys, ranks):
    """A rule by a source of numbers, as (early, keyed, ranks), of some keys and ranks."""
    return (
        [name for name in names if source.randrange(6) == 0],
        {name: source.choice(keys) for name in names if keys and source.randrange(2)},
        {name: source.choice(ranks) for name in names if ranks and source.randrange(2)},
    )


def service_of(pair):
    """The service of the program for (names, table)."""
    names, table = pair
    return Service(names, table)


def lists_within(value):
    """All lists in a value, once for each place in which they stand."""
    if isinstance(value, (list, tuple)):
        own = [value] if isinstance(value, list) else []
        return own + [found for part in value for found in lists_within(part)]
    return []


def stand_alone(*values):
    """Tell whether no list stands in two places of some values."""
    found = [each for value in values for each in lists_within(value)]
    return len({id(each) for each in found}) == len(found)
