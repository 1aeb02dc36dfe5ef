"""Whether rows of calls that are cut into batches are done rightly."""

from anycut.errors import EmptyBatch
from anycut.lanes import Lanes
from anycut.rules import Rule


def play(service, rule, cut):
    """Return the tuples (answers, state behind) of the batches of a cut, done by the rule from state 0 on."""
    told = []
    state = 0
    for index, calls in enumerate(cut):
        if len(calls) == 0:
            raise EmptyBatch(index)
        answers, state = rule.batch(service, calls, state)
        told.append((answers, state))
    return told


def is_right_cut(service, rule, cut):
    """Tell whether the answers and the states of a cut are those of its calls done one by one."""
    played = play(service, rule, cut)
    single = []
    state = 0
    for calls in cut:
        answers, state = service.run(calls, state)
        single.append((answers, state))
    return played == single


def first_rows(service):
    """Return for each state the first row that leads to it."""
    names = service.calls
    rows = [[]]
    for state, steps in enumerate(service.table):
        for name, (onward, _) in zip(names, steps):
            # States are numbered as they are reached first, so a new one is always the next one.
            if onward == len(rows):
                rows.append(rows[state] + [name])
    return rows


def place_of(word):
    """Return by what words, lists of calls as tuples of their indexes, are ordered."""
    return len(word), word


def begun_at(ours, theirs, state):
    """Return the nodes in which a batch from a state begins.

    A node is a tuple of a lane of either rule, and whether they differed in an answer so far.
    """
    return [(one, other, False) for one in ours.begins[state] for other in theirs.begins[state]]


def moved(ours, theirs, node, call):
    """Return the nodes to which a call leads from a node."""
    one, other, differs = node
    return [
        (onward, further, differs or answer != reply)
        for answer, onward in ours.steps[one][call]
        for reply, further in theirs.steps[other][call]
    ]


def is_unlike(ours, theirs, node):
    """Tell whether a batch that leads to a node may end there, and differs."""
    one, other, differs = node
    behind, beyond = ours.ends[one], theirs.ends[other]
    if behind is None or beyond is None:
        return False
    return differs or behind != beyond


def next_words(ours, theirs, words, many):
    """Return the nodes one call behind those of some words, each with the first word that leads to it."""
    told = {}
    for node in words:
        for call in range(many):
            word = words[node] + (call,)
            for onward in moved(ours, theirs, node, call):
                if onward not in told or place_of(word) < place_of(told[onward]):
                    told[onward] = word
    return told


def first_word(service, one, other, ahead):
    """Return the first of the shortest words for which two rules differ, None if there is none.

    For each state, `ahead` has the number of calls that count ahead of the words done from there.
    """
    ours, theirs = Lanes(service, one), Lanes(service, other)
    many_calls = len(service.calls)
    known = {}
    words = {}
    many = 0
    while words or many <= max(ahead):
        fresh = next_words(ours, theirs, words, many_calls)
        for state, length in enumerate(ahead):
            if length == many:
                # The empty word comes before all others.
                for node in begun_at(ours, theirs, state):
                    fresh[node] = ()
        words = {node: fresh[node] for node in fresh if node not in known}
        for node in words:
            known[node] = True
        found = [words[node] for node in words if is_unlike(ours, theirs, node)]
        if found:
            return min(found, key=place_of)
        many += 1
    return None


def first_unlike(service, one, other):
    """Return the tuple (row, batch), with the least calls, for which two rules differ; None if there is none."""
    rows = first_rows(service)
    word = first_word(service, one, other, [len(row) for row in rows])
    if word is None:
        return None
    names = service.calls
    batch = [names[call] for call in word]
    # No state with a shorter row is wrong, so the first one that is wrong has the first row.
    wrong = [
        state
        for state in range(len(rows))
        if one.batch(service, batch, state) != other.batch(service, batch, state)
    ]
    return rows[wrong[0]], batch


def wrong_cut(service, rule):
    """Return the tuple (row, batch), with the least calls, for which a rule is wrong; None if it is right."""
    # The rule that says nothing does the calls one by one.
    return first_unlike(service, rule, Rule())


def right_length(service, rule):
    """Return the greatest length up to which all batches are right, None if all are."""
    word = first_word(service, rule, Rule(), [0 for _ in range(len(service))])
    return None if word is None else len(word) - 1


def is_right(service, rule):
    """Tell whether a rule is right."""
    return right_length(service, rule) is None


def choices(names):
    """Return all lists of some of the names, by their number, then by the sequence of the names."""
    told = []
    level = [[]]
    while level:
        told.extend(level)
        level = [
            chosen + [at]
            for chosen in level
            for at in range(chosen[-1] + 1 if chosen else 0, len(names))
        ]
    return [[names[at] for at in chosen] for chosen in told]


def left_out(rule, names):
    """Return the rule without some calls."""
    for name in names:
        rule = rule.without(name)
    return rule


def least_left_out(service, rule):
    """Return all sets of calls without which a rule is right, but not without only some of them."""
    # A call of which the rule says nothing stands in no such set.
    names = [name for name in service.calls if rule.without(name) != rule]
    told = []
    for chosen in choices(names):
        within = [least for least in told if all([call in chosen for call in least])]
        if not within and is_right(service, left_out(rule, chosen)):
            told.append(chosen)
    return told


def change_places(service, one, other):
    """Tell whether two calls give the same answers in either sequence, and the same state behind."""
    for state in range(len(service)):
        answers, behind = service.run([one, other], state)
        turned, beyond = service.run([other, one], state)
        if answers != turned[::-1] or behind != beyond:
            return False
    return True


def may_change(service):
    """Return all tuples of a call and a later one that may change places."""
    names = service.calls
    return [
        (one, other)
        for at, one in enumerate(names)
        for other in names[at + 1:]
        if change_places(service, one, other)
    ]
