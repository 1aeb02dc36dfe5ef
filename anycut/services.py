"""Services, which answer calls one by one."""

from anycut.errors import DoubleName, InvalidState, InvalidStep, UnknownCall
from anycut.names import check_name


def is_state(number, many):
    """Tell whether a number is one of so many states. True and False are none."""
    if not isinstance(number, int) or isinstance(number, bool):
        return False
    return 0 <= number < many


def check_names(names):
    """Raise an error for the first call that is no name or stood before."""
    seen = set()
    for name in names:
        check_name(name)
        if name in seen:
            raise DoubleName(name)
        seen.add(name)


def check_table(table, width):
    """Raise an error for the first state, or tuple of one, that is wrong."""
    for index, row in enumerate(table):
        if len(row) != width:
            raise InvalidState(index)
        for step in row:
            if not is_state(step[0], len(table)):
                raise InvalidStep(step)


def reached(table):
    """Return the states that come about, in the sequence in which they are reached first."""
    found = [0]
    known = {0: True}
    at = 0
    while at < len(found):
        row = table[found[at]]
        for onward, _ in row:
            if onward not in known:
                known[onward] = True
                found.append(onward)
        at += 1
    return found


class Service:
    """A service: in each state each call has an answer and a next state."""

    def __init__(self, names, table):
        check_names(names)
        check_table(table, len(names))
        found = reached(table)
        numbers = {state: number for number, state in enumerate(found)}
        self._names = list(names)
        self._places = {name: place for place, name in enumerate(names)}
        self._rows = [[(numbers[onward], answer) for onward, answer in table[state]] for state in found]

    @property
    def calls(self):
        """The list of the names of the calls."""
        return list(self._names)

    @property
    def table(self):
        """The table of the states that come about, numbered as they are reached first."""
        return [list(row) for row in self._rows]

    def __len__(self):
        return len(self._rows)

    def __eq__(self, other):
        if not isinstance(other, Service):
            return False
        return self._names == other._names and self._rows == other._rows

    def __getitem__(self, at):
        if at not in self._places:
            raise UnknownCall(at)
        return [row[self._places[at]] for row in self._rows]

    def __iter__(self):
        # Without this, Python would iterate by asking for service[0], service[1] and so on.
        raise TypeError("a service is not iterated over")

    def check(self, row, state):
        """Raise the error for a row that cannot be done from a state."""
        if not is_state(state, len(self._rows)):
            raise InvalidState(state)
        for name in row:
            if name not in self._places:
                raise UnknownCall(name)

    def run(self, row, state=0):
        """Return the answers of a row done one by one from a state, and the state behind."""
        self.check(row, state)
        answers = []
        for name in row:
            state, answer = self._rows[state][self._places[name]]
            answers.append(answer)
        return answers, state


def side(one, other):
    """Return the service with the calls of both, each of which concerns its own service alone."""
    names = one.calls + other.calls
    # The calls of either one are unlike, so this finds the first one that both have.
    check_names(names)
    left, right = one.table, other.table
    wide = len(right)
    table = []
    for here in range(len(left)):
        for there in range(wide):
            row = [(onward * wide + there, answer) for onward, answer in left[here]]
            row.extend([(here * wide + onward, answer) for onward, answer in right[there]])
            table.append(row)
    return Service(names, table)


def refined(table, kinds):
    """Part the states of each kind by their answers and the kinds of their next states."""
    numbers = {}
    told = []
    for state, row in enumerate(table):
        mark = (kinds[state], tuple([(kinds[onward], answer) for onward, answer in row]))
        if mark not in numbers:
            numbers[mark] = len(numbers)
        told.append(numbers[mark])
    return told


def kinds_of(table):
    """Number the states so that those with the same number give the same answers to all rows."""
    many = 0
    kinds = [0] * len(table)
    while many < max(kinds) + 1:
        many = max(kinds) + 1
        kinds = refined(table, kinds)
    return kinds


def reduced(service):
    """Return the service with the fewest states that gives the same answers to all rows."""
    table = service.table
    kinds = kinds_of(table)
    firsts = [kinds.index(kind) for kind in range(max(kinds) + 1)]
    rows = [[(kinds[onward], answer) for onward, answer in table[state]] for state in firsts]
    return Service(service.calls, rows)
