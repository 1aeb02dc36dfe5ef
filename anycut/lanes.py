"""All that a rule can do with batches of a service, as finitely many numbered lanes.

Which call of a key is the last one, and where the calls of a higher rank begin, is known only behind
the whole batch. A lane guesses it ahead: it begins for each rank in a guessed state, and takes each
call with a key as skipped or as the last one. A batch may end only in a lane that guessed right, and
each batch leads to just one such lane.

A lane is a tuple (starts, now, marks): for each rank, ascending, the state in which its calls begin
and the state in which those read so far end, and for each key what is known of it.
"""

# What a lane knows of a key: no call of it was read, all that were read are skipped, or the last one
# was done.
UNREAD = 0
SKIPPED = 1
LAST = 2


def number_of(lane, numbers, found):
    """Return the number of a lane, and note it if it is a new one."""
    if lane not in numbers:
        numbers[lane] = len(found)
        found.append(lane)
    return numbers[lane]


def marked(marks, key, mark):
    """Return the marks with another one at a key."""
    return marks[:key] + (mark,) + marks[key + 1:]


def end_of(lane):
    """Return the state behind a batch that ends in a lane, None if none can end there."""
    starts, now, marks = lane
    if SKIPPED in marks or starts[1:] != now[:-1]:
        return None
    return now[-1]


class Lanes:
    """The lanes of a rule and a service.

    `begins` has for each state the lanes in which a batch from there may begin, `steps` for each lane
    and each call the list of the tuples (answer, next lane), and `ends` for each lane the state behind
    a batch that ends in it, or None.
    """

    def __init__(self, service, rule):
        self._table = service.table
        early, keyed, ranks = rule.early, dict(rule.keyed), dict(rule.ranks)
        names = service.calls
        # What the rule says of early calls, and of names that are no calls, counts for nothing.
        late = [name for name in names if name not in early]
        levels = sorted({ranks.get(name, 0) for name in late})
        keys = sorted({keyed[name] for name in late if name in keyed})
        self._early = [name in early for name in names]
        self._levels = [levels.index(ranks.get(name, 0)) if name in late else None for name in names]
        self._keys = [keys.index(keyed[name]) if name in late and name in keyed else None for name in names]
        self._many_levels = max(len(levels), 1)
        self._many_keys = len(keys)
        self._number()

    def _number(self):
        """Number all lanes that come about, and set what is told of them."""
        numbers, found = {}, []
        self.begins = []
        for state in range(len(self._table)):
            self.begins.append([number_of(lane, numbers, found) for lane in self._begun(state)])
        self.steps = []
        while len(self.steps) < len(found):
            lane = found[len(self.steps)]
            told = []
            for call in range(len(self._early)):
                moves = self._moves(lane, call)
                told.append([(answer, number_of(onward, numbers, found)) for answer, onward in moves])
            self.steps.append(told)
        self.ends = [end_of(lane) for lane in found]

    def _begun(self, state):
        """Return the lanes that begin in a state, with each guess of where the higher ranks begin."""
        guesses = [(state,)]
        for _ in range(self._many_levels - 1):
            guesses = [guess + (other,) for guess in guesses for other in range(len(self._table))]
        return [(guess, guess, (UNREAD,) * self._many_keys) for guess in guesses]

    def _moves(self, lane, call):
        """Return the list of the tuples (answer, next lane) of a call."""
        starts, now, marks = lane
        if self._early[call]:
            return [(self._table[starts[0]][call][1], lane)]
        level, key = self._levels[call], self._keys[call]
        onward, answer = self._table[now[level]][call]
        moved = marked(now, level, onward)
        if key is None:
            return [(answer, (starts, moved, marks))]
        if marks[key] == LAST:
            return []
        skipped = (None, (starts, now, marked(marks, key, SKIPPED)))
        return [skipped, (answer, (starts, moved, marked(marks, key, LAST)))]
