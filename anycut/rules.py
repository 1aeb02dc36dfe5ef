"""Rules, by which batches are done."""

from anycut.errors import DoubleName, EmptyBatch
from anycut.names import check_name


def check_rule(early, keyed, ranks):
    """Raise an error for the first word that is no name, then for the first early call that stood before."""
    names = sorted(keyed)
    for word in list(early) + names + [keyed[name] for name in names] + sorted(ranks):
        check_name(word)
    seen = set()
    for name in early:
        if name in seen:
            raise DoubleName(name)
        seen.add(name)


class Rule:
    """A rule: its early calls, its keys and its ranks."""

    def __init__(self, early=(), keyed=None, ranks=None):
        keys = {} if keyed is None else keyed
        places = {} if ranks is None else ranks
        check_rule(early, keys, places)
        self._early = sorted(early)
        self._keyed = [(name, keys[name]) for name in sorted(keys)]
        self._ranks = [(name, places[name]) for name in sorted(places) if places[name] != 0]

    @property
    def early(self):
        """The ascending list of the early calls."""
        return list(self._early)

    @property
    def keyed(self):
        """The ascending list of the tuples (name, key)."""
        return list(self._keyed)

    @property
    def ranks(self):
        """The ascending list of the tuples (name, rank), without the ranks that are 0."""
        return list(self._ranks)

    def __eq__(self, other):
        if not isinstance(other, Rule):
            return False
        return self._early == other._early and self._keyed == other._keyed and self._ranks == other._ranks

    def _left(self, calls):
        """Return the indexes of the calls that are neither early nor skipped."""
        keys = dict(self._keyed)
        behind = set()
        left = []
        for at in reversed(range(len(calls))):
            name = calls[at]
            key = keys.get(name)
            if name in self._early or key in behind:
                continue
            if key is not None:
                behind.add(key)
            left.append(at)
        return left[::-1]

    def order(self, calls):
        """Return the indexes of the calls that are done, early ones left out, in the sequence in which they are."""
        ranks = dict(self._ranks)
        # sorted keeps the sequence of the batch where ranks are the same.
        return sorted(self._left(calls), key=lambda at: ranks.get(calls[at], 0))

    def batch(self, service, calls, state=0):
        """Return the answers of a batch done from a state, in its own sequence, and the state behind it."""
        if len(calls) == 0:
            raise EmptyBatch(0)
        service.check(calls, state)
        answers = [None for _ in calls]
        for at, name in enumerate(calls):
            if name in self._early:
                answers[at] = service[name][state][1]
        done = self.order(calls)
        told, behind = service.run([calls[at] for at in done], state)
        for at, answer in zip(done, told):
            answers[at] = answer
        return answers, behind

    def without(self, name):
        """Return the rule in which a call is not early, has no key and no rank."""
        return Rule(
            [word for word in self._early if word != name],
            {word: key for word, key in self._keyed if word != name},
            {word: rank for word, rank in self._ranks if word != name},
        )
