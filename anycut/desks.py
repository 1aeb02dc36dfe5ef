"""Desks, which gather calls and do them in batches."""

from anycut.errors import EmptyBatch, InvalidLength, NothingToUndo


class Desk:
    """A desk that gathers calls, and does them by a rule.

    None of its lists is ever modified: a longer one takes its place, so that `undo` finds the former ones.
    """

    def __init__(self, service, rule, most=None):
        if most is not None and most < 1:
            raise InvalidLength(most)
        self._service = service
        self._rule = rule
        self._most = most
        self._is_safe = False
        self._state = 0
        self._waiting = []
        self._cut = []
        self._answers = []
        self._is_true = True
        self._past = []

    def __call__(self, name):
        self._service.check([name], self._state)
        self._remember()
        told = self._gather(name)
        return told if told else None

    def done(self):
        """Do what is gathered, and return the answers."""
        if not self._waiting:
            raise EmptyBatch(0)
        self._remember()
        return self._do_waiting()

    @property
    def state(self):
        """The state behind all that was done."""
        return self._state

    @property
    def waiting(self):
        """The list of the calls that are gathered and not done."""
        return list(self._waiting)

    @property
    def cut(self):
        """The list of the batches that were done."""
        return [list(calls) for calls in self._cut]

    @property
    def answers(self):
        """The list of the answers of all that was done."""
        return list(self._answers)

    @property
    def is_true(self):
        """Whether all that was done is as if the calls had been done one by one."""
        return self._is_true

    def undo(self):
        """Take back the last call, or the last `done`."""
        if not self._past:
            raise NothingToUndo(0)
        self._state, self._waiting, self._cut, self._answers, self._is_true = self._past.pop()

    def __len__(self):
        return len(self._answers)

    def __eq__(self, other):
        if not isinstance(other, Desk):
            return False
        return self._is_like(other)

    def _is_like(self, other):
        """Tell whether another desk is of the same kind, and equal."""
        return (
            self._is_safe == other._is_safe
            and self._service == other._service
            and self._rule == other._rule
            and self._most == other._most
            and self._cut == other._cut
            and self._waiting == other._waiting
        )

    def _remember(self):
        """Keep what `undo` brings back."""
        self._past.append((self._state, self._waiting, self._cut, self._answers, self._is_true))

    def _gather(self, name):
        """Gather a call, and return the answers of what was done then."""
        self._waiting = self._waiting + [name]
        if self._most is None or len(self._waiting) < self._most:
            return []
        return self._do_waiting()

    def _do_waiting(self):
        """Do what is gathered by the rule, and return the answers."""
        calls = self._waiting
        answers, behind = self._rule.batch(self._service, calls, self._state)
        self._waiting = []
        return self._note(calls, answers, behind)

    def _note(self, calls, answers, behind):
        """Note a batch that was done, and return its answers."""
        # As long as all was true, the state is that of the calls done one by one; later it is not asked any more.
        self._is_true = self._is_true and (answers, behind) == self._service.run(calls, self._state)
        self._cut = self._cut + [calls]
        self._answers = self._answers + answers
        self._state = behind
        return answers


class SafeDesk(Desk):
    """A desk that does nothing wrong."""

    def __init__(self, service, rule, most=None):
        super().__init__(service, rule, most)
        self._is_safe = True

    def __call__(self, name):
        self._service.check([name], self._state)
        self._remember()
        told = []
        if self._waiting and self._is_wrong(self._waiting + [name]):
            told = self._do_waiting()
        # What still waits is right with this call, so only a call that is alone can be wrong.
        if not self._waiting and self._is_wrong([name]):
            told = told + self._do_singly(name)
        else:
            told = told + self._gather(name)
        return told if told else None

    def done(self):
        """Do what is gathered, and return the answers."""
        return super().done()

    @property
    def state(self):
        """The state behind all that was done."""
        return self._state

    @property
    def waiting(self):
        """The list of the calls that are gathered and not done."""
        return list(self._waiting)

    @property
    def cut(self):
        """The list of the batches that were done."""
        return [list(calls) for calls in self._cut]

    @property
    def answers(self):
        """The list of the answers of all that was done."""
        return list(self._answers)

    @property
    def is_true(self):
        """Whether all that was done is as if the calls had been done one by one."""
        return self._is_true

    def undo(self):
        """Take back the last call with all that was done in it, or the last `done`."""
        super().undo()

    def __len__(self):
        return len(self._answers)

    def __eq__(self, other):
        if not isinstance(other, SafeDesk):
            return False
        return self._is_like(other)

    def _is_wrong(self, calls):
        """Tell whether the rule is wrong for a batch from the state of the desk."""
        singly = self._service.run(calls, self._state)
        return self._rule.batch(self._service, calls, self._state) != singly

    def _do_singly(self, name):
        """Do a call as it is done one by one, and return the answers."""
        answers, behind = self._service.run([name], self._state)
        return self._note([name], answers, behind)
