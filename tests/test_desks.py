import copy
import random
import unittest

from anycut.cuts import is_right_cut, play
from anycut.desks import Desk, SafeDesk
from anycut.errors import EmptyBatch, InvalidLength, NothingToUndo, UnknownCall
from anycut.rules import Rule
from anycut.services import Service, side
from plain import NAMES, by_rule, made, singly, some_rule, some_service, stand_alone
from test_services import WithErrors, flag

KINDS = [Desk, SafeDesk]


def shown(desk):
    """All that a desk tells of itself."""
    return [desk.state, desk.waiting, desk.cut, desk.answers, desk.is_true, len(desk)]


class Reading:
    """A desk by a plain reading of the document: it works out all anew from what was asked and not taken back."""

    def __init__(self, names, table, rule, most, safe):
        self.names, self.table, self.rule, self.most, self.safe = names, table, rule, most, safe
        self.asked = []

    def wrong(self, batch):
        return by_rule(self.names, self.table, self.rule, batch, self.state) != singly(
            self.names, self.table, batch, self.state)

    def deal(self, batch, way):
        answers, self.state = way(batch)
        self.cut.append(batch)
        self.told.append((answers, self.state))
        return answers

    def by_rule(self, batch):
        return by_rule(self.names, self.table, self.rule, batch, self.state)

    def singly(self, batch):
        return singly(self.names, self.table, batch, self.state)

    def call(self, name):
        answers = []
        if self.safe and self.wrong(self.waiting + [name]):
            if self.waiting:
                answers += self.deal(self.waiting, self.by_rule)
            self.waiting = []
            if self.wrong([name]):
                return answers + self.deal([name], self.singly)
        self.waiting = self.waiting + [name]
        if len(self.waiting) == self.most:
            answers += self.deal(self.waiting, self.by_rule)
            self.waiting = []
        return answers or None

    def play(self):
        """What the last thing asked for returns."""
        self.state, self.waiting, self.cut, self.told = 0, [], [], []
        last = None
        for name in self.asked:
            if name is None:
                last, self.waiting = self.deal(self.waiting, self.by_rule), []
            else:
                last = self.call(name)
        return last

    def shown(self):
        self.play()
        state, true = 0, True
        for batch, told in zip(self.cut, self.told):
            expected = singly(self.names, self.table, batch, state)
            true = true and told == expected
            state = expected[1]
        answers = [answer for told in self.told for answer in told[0]]
        return [self.state, self.waiting, self.cut, answers, true, sum(len(batch) for batch in self.cut)]


class Desks(WithErrors):
    def test_gathered_until_done(self):
        desk = Desk(flag(), Rule())
        self.assertEqual(shown(desk), [0, [], [], [], True, 0])
        self.assertEqual([desk("on"), desk("look"), desk("look")], [None, None, None])
        self.assertEqual(shown(desk), [0, ["on", "look", "look"], [], [], True, 0])
        self.assertEqual(desk.done(), [None, 1, 1])
        self.assertEqual(shown(desk), [1, [], [["on", "look", "look"]], [None, 1, 1], True, 3])
        self.assertEqual(desk(name="look"), None)
        self.assertEqual(desk.done(), [1])
        self.assertEqual(shown(desk), [1, [], [["on", "look", "look"], ["look"]], [None, 1, 1, 1], True, 4])

    def test_most(self):
        for kind in KINDS:
            desk = kind(service=flag(), rule=Rule(keyed={"on": "k"}), most=2)
            self.assertEqual([desk("on"), desk("on"), desk("look")], [None, [None, None], None])
            self.assertEqual(desk("look"), [1, 1])
            self.assertEqual(shown(desk), [1, [], [["on", "on"], ["look", "look"]], [None, None, 1, 1], True, 4])

    def test_done_ahead_of_most(self):
        for kind in KINDS:
            desk = kind(flag(), Rule(), 3)
            self.assertEqual([desk("look"), desk.done(), desk("on"), desk("look")], [None, [0], None, None])
            self.assertEqual(desk("off"), [None, 1, None])
            self.assertEqual(desk.cut, [["look"], ["on", "look", "off"]])

    def test_most_of_one(self):
        desk = Desk(flag(), Rule(["on"]), 1)
        self.assertEqual([desk("look"), desk("on"), desk("look")], [[0], [None], [0]])
        self.assertEqual(shown(desk), [0, [], [["look"], ["on"], ["look"]], [0, None, 0], False, 3])
        self.raised(EmptyBatch, 0, desk.done)
        calm = SafeDesk(flag(), Rule(["on"]), 1)
        self.assertEqual([calm("look"), calm("on"), calm("look")], [[0], [None], [1]])
        self.assertEqual(shown(calm), [1, [], [["look"], ["on"], ["look"]], [0, None, 1], True, 3])

    def test_great_most(self):
        for kind in KINDS:
            for desk in [kind(flag(), Rule(), 10 ** 20), kind(flag(), Rule()), kind(flag(), Rule(), None)]:
                self.assertEqual([desk("look") for _ in range(150)], [None] * 150)
                self.assertEqual((len(desk), len(desk.waiting), desk.done()), (0, 150, [0] * 150))
                self.assertEqual(len(desk), 150)

    def test_is_true_of_answers_and_of_states(self):
        desk = Desk(flag(), Rule(["look"]), 2)
        desk("on")
        desk("look")
        self.assertEqual((desk.answers, desk.is_true), ([None, 0], False))
        # Nothing answers here: the state behind alone is another one.
        one = Service(["go", "back"], [[(1, None), (0, None)], [(1, None), (0, None)]])
        desk = Desk(one, Rule(["go"]), 1)
        desk("back")
        self.assertIs(desk.is_true, True)
        desk("go")
        self.assertIs(desk.is_true, False)
        # It stays so where the state is right again.
        desk("back")
        self.assertEqual((desk.state, desk.is_true), (0, False))
        desk.undo()
        desk.undo()
        self.assertIs(desk.is_true, True)

    def test_a_wrong_state_that_answers_as_the_right_one(self):
        one = Service(["go", "look"], [[(1, 0), (0, 0)], [(1, 0), (1, 0)]])
        desk = Desk(one, Rule(["go"]), 1)
        self.assertEqual([desk("go"), desk("look"), desk.is_true], [[0], [0], False])

    def test_answers_of_early_and_skipped_calls(self):
        desk = Desk(flag(), Rule(["look"], {"off": "k", "on": "k"}), 4)
        self.assertEqual([desk("on"), desk("look"), desk("off")], [None] * 3)
        self.assertEqual((desk("on"), desk.answers), ([None, 0, None, None], [None, 0, None, None]))
        self.assertEqual((desk.state, desk.is_true), (1, False))

    def test_undo(self):
        desk = Desk(flag(), Rule(["look"]), 3)
        seen = [shown(desk)]
        asked = [
            lambda: desk("on"), lambda: desk("look"), lambda: desk.done(), lambda: desk("look"),
            lambda: desk("off"), lambda: desk("look"), lambda: desk("look"), lambda: desk.done(),
        ]
        told = []
        for ask in asked:
            told.append(ask())
            seen.append(shown(desk))
        self.assertEqual(told, [None, None, [None, 0], None, None, [1, None, 1], None, [0]])
        for before in reversed(seen[:-1]):
            self.assertIs(desk.undo(), None)
            self.assertEqual(shown(desk), before)
        self.raised(NothingToUndo, 0, desk.undo)
        self.assertEqual([ask() for ask in asked], told)

    def test_undo_of_a_safe_desk(self):
        # The call does what is gathered, and is done alone as well: all of it is taken back.
        calm = SafeDesk(flag(), Rule(["look", "on"]))
        self.assertEqual([calm("look"), calm("look")], [None, None])
        self.assertEqual(calm("on"), [0, 0, None])
        self.assertEqual(shown(calm), [1, [], [["look", "look"], ["on"]], [0, 0, None], True, 3])
        self.assertEqual((calm.undo(), shown(calm)), (None, [0, ["look", "look"], [], [], True, 0]))
        self.assertEqual((calm.done(), calm.undo(), calm.waiting), ([0, 0], None, ["look", "look"]))
        calm.undo()
        calm.undo()
        self.raised(NothingToUndo, 0, calm.undo)
        self.assertEqual(shown(calm), [0, [], [], [], True, 0])

    def test_errors(self):
        for kind in KINDS:
            for most in [0, -1, -10 ** 20]:
                self.raised(InvalidLength, most, kind, flag(), Rule(), most)
                self.raised(InvalidLength, most, kind, service=flag(), rule=Rule(), most=most)
            desk = kind(flag(), Rule(["no"]), 2)
            self.raised(EmptyBatch, 0, desk.done)
            self.raised(NothingToUndo, 0, desk.undo)
            for name in ["no", "", "On", "onn"]:
                self.raised(UnknownCall, name, desk, name)
            self.assertEqual(desk, kind(flag(), Rule(["no"]), 2))
            self.raised(NothingToUndo, 0, desk.undo)

    def test_an_error_changes_nothing_and_is_nothing_to_take_back(self):
        for kind in KINDS:
            desk = kind(flag(), Rule(["look"]), 2)
            desk("on")
            desk.done()
            before = shown(desk)
            self.raised(EmptyBatch, 0, desk.done)
            self.raised(UnknownCall, "no", desk, "no")
            self.assertEqual(shown(desk), before)
            desk("on")
            self.raised(UnknownCall, "no", desk, "no")
            self.assertEqual(desk.waiting, ["on"])
            desk.undo()
            self.assertEqual(shown(desk), before)
            desk.undo()
            self.assertEqual(desk.waiting, ["on"])
            desk.undo()
            self.raised(NothingToUndo, 0, desk.undo)
            self.raised(NothingToUndo, 0, desk.undo)
            self.assertEqual(shown(desk), [0, [], [], [], True, 0])

    def test_told_lists_are_new(self):
        for kind in KINDS:
            desk = kind(flag(), Rule(), 2)
            kept = kind(flag(), Rule(), 2)
            for each in [desk, kept]:
                for name in ["on", "look", "off"]:
                    each(name)
            told = [desk.waiting, desk.cut, desk.answers, desk("on"), desk.cut, desk.waiting, desk.answers]
            self.assertTrue(stand_alone(told))
            for part in told[1] + told[4] + told:
                part.append("more")
            kept("on")
            self.assertEqual(shown(desk), shown(kept))
            desk("on")
            done = desk.done()
            self.assertTrue(stand_alone(done, desk.answers, desk.cut))
            done.clear()
            self.assertEqual(desk.answers, [None, 1, None, None, None])
            desk.undo()
            desk.undo()
            self.assertEqual((desk, shown(desk)), (kept, shown(kept)))

    def test_service_and_rule_are_not_changed(self):
        one, rule = flag(), Rule(["look"], {"on": "k"}, {"off": 1})
        for kind in KINDS:
            desk = kind(one, rule, 3)
            for name in ["on", "look", "on", "off", "look"]:
                desk(name)
            desk.undo()
        self.assertEqual((one, rule), (flag(), Rule(["look"], {"on": "k"}, {"off": 1})))


class Equality(unittest.TestCase):
    def test_desks_of_one_kind(self):
        for kind in KINDS:
            one, other = kind(flag(), Rule(["look"]), 2), kind(flag(), Rule(["look"]), 2)
            self.assertTrue(one == other)
            self.assertFalse(one != other)
            one("on")
            self.assertFalse(one == other)
            self.assertTrue(one != other)
            other("off")
            self.assertFalse(one == other)
            other.undo()
            other("on")
            # What was taken back does not count.
            self.assertTrue(one == other)
            one.done()
            self.assertFalse(one == other)
            other.done()
            self.assertTrue(one == other)

    def test_what_a_desk_is_made_of(self):
        for kind in KINDS:
            one = kind(flag(), Rule(["look"]), 2)
            for other in [
                kind(Service(["off", "on", "look"], [[(0, None)] * 3]), Rule(["look"]), 2),
                kind(flag(), Rule(), 2), kind(flag(), Rule(["look"]), 3), kind(flag(), Rule(["look"])),
                kind(flag(), Rule(["look"]), None), None, 0, [], flag(), Rule(["look"]), (flag(), Rule(["look"]), 2),
            ]:
                self.assertIs(one == other, False)
                self.assertIs(other == one, False)
                self.assertIs(one != other, True)
            self.assertTrue(one == kind(flag(), Rule(["look"], {}, {"on": 0}), most=2))

    def test_same_calls_cut_otherwise(self):
        for kind in KINDS:
            one, other = kind(flag(), Rule()), kind(flag(), Rule())
            for desk in [one, other]:
                desk("look")
                desk("look")
            one.done()
            other.undo()
            other.done()
            other("look")
            other.done()
            self.assertEqual((one.answers, one.cut), (other.answers, [["look", "look"]]))
            self.assertFalse(one == other)

    def test_a_desk_is_not_equal_to_a_safe_one(self):
        one, calm = Desk(flag(), Rule()), SafeDesk(flag(), Rule())
        for _ in range(2):
            self.assertFalse(one == calm)
            self.assertFalse(calm == one)
            self.assertTrue(one != calm)
            self.assertTrue(calm != one)
            self.assertFalse([one] == [calm])
            self.assertIs(Desk.__eq__(one, calm), False)
            one("on")
            calm("on")
        self.assertTrue(issubclass(SafeDesk, Desk))
        self.assertIsInstance(calm, Desk)


class Safe(unittest.TestCase):
    def test_done_ahead_of_a_call_that_would_make_it_wrong(self):
        calm = SafeDesk(flag(), Rule(["look"]))
        self.assertEqual([calm("look"), calm("look"), calm("on")], [None, None, None])
        # From state 0 on, look is answered 0: behind on it is another answer.
        self.assertEqual((calm("look"), calm.waiting), ([0, 0, None], ["look"]))
        self.assertEqual([calm("on"), calm("look"), calm("on")], [None, None, None])
        # In state 1 the call on changes nothing.
        self.assertEqual((calm.cut, calm.waiting), ([["look", "look", "on"]], ["look", "on", "look", "on"]))

    def test_a_call_that_is_wrong_alone(self):
        calm = SafeDesk(flag(), Rule(["on"]))
        self.assertEqual([calm("look"), calm("on"), calm("on"), calm("look")], [None, [0, None], None, None])
        self.assertEqual(shown(calm), [1, ["on", "look"], [["look"], ["on"]], [0, None], True, 2])
        self.assertEqual((calm("off"), calm("on")), (None, [None, 1, None, None]))
        self.assertEqual(shown(calm), [1, [], [["look"], ["on"], ["on", "look", "off"], ["on"]],
                                       [0, None, None, 1, None, None], True, 6])

    def test_wrong_alone_where_nothing_is_gathered(self):
        calm = SafeDesk(flag(), Rule(["on"]), 5)
        self.assertEqual((calm("on"), calm.state, calm.waiting, calm.cut), ([None], 1, [], [["on"]]))
        calm.undo()
        self.assertEqual((calm.state, calm.waiting, calm.cut, len(calm)), (0, [], [], 0))

    def test_wrong_by_keys_and_ranks(self):
        calm = SafeDesk(flag(), Rule(keyed={"off": "k", "on": "k"}))
        self.assertEqual([calm(name) for name in ["on", "off", "off", "look", "on", "look"]], [None] * 6)
        # Without on the second look would be answered 0.
        self.assertEqual((calm("off"), calm.waiting), ([None, None, None, 0, None, 1], ["off"]))
        late = SafeDesk(flag(), Rule(ranks={"look": 1}))
        self.assertEqual([late("look"), late("off"), late("on")], [None, None, [0, None]])
        self.assertEqual((late.cut, late.waiting, late.state), ([["look", "off"]], ["on"], 0))

    def test_what_a_rule_leaves_alone(self):
        calm = SafeDesk(flag(), Rule())
        self.assertEqual([calm(name) for name in ["on", "look", "off", "look"] * 9], [None] * 36)
        self.assertEqual(calm.done(), [None, 1, None, 0] * 9)

    def test_nothing_wrong_is_done_in_great_services(self):
        source = random.Random(31)
        one = Service(list("abcdefg"), [[((state + at) % 10, state) for at in range(7)] for state in range(10)])
        both = side(one, Service(list("hi"), [[(1, 5), (0, 10 ** 19)], [(1, 6), (0, 7)]]))
        rule = Rule(["a", "c"], {"h": "x", "i": "x", "b": "y"}, {"d": 1, "h": -1})
        calm, desk = SafeDesk(both, rule, 9), Desk(both, rule, 9)
        for _ in range(180):
            name = source.choice(both.calls)
            calm(name)
            desk(name)
        self.assertIs(calm.is_true, True)
        self.assertEqual((calm.answers, calm.state), both.run(sum(calm.cut, [])))
        self.assertEqual(desk.is_true, is_right_cut(both, rule, desk.cut))
        self.assertEqual((desk.answers, desk.state), (
            [answer for answers, _ in play(both, rule, desk.cut) for answer in answers],
            play(both, rule, desk.cut)[-1][1]))


class Drawn(WithErrors):
    """Drawn calls, `done` and `undo` by turns, held against the plain reading."""

    def ask(self, source, desk, model, names):
        draw = source.randrange(10)
        if draw == 0:
            self.raised(UnknownCall, "none", desk, "none")
        elif draw == 1 and not model.waiting:
            self.raised(EmptyBatch, 0, desk.done)
        elif draw == 1:
            model.asked.append(None)
            self.assertEqual(desk.done(), model.play())
        elif draw in (2, 3) and not model.asked:
            self.raised(NothingToUndo, 0, desk.undo)
        elif draw in (2, 3):
            model.asked.pop()
            self.assertIs(desk.undo(), None)
        else:
            model.asked.append(source.choice(names))
            self.assertEqual(desk(model.asked[-1]), model.play())

    def test_desks(self):
        source = random.Random(32)
        for at in range(300):
            names, table = some_service(source, 5, 5)
            one = Service(names, table)
            rule = some_rule(source, names, [[], ["x"], ["x", "y"]][at % 3], [[], [1, -1]][at % 2])
            kept = copy.deepcopy(rule)
            most = source.choice([None, 1, 2, 3, 5])
            for safe in [False, True]:
                desk = KINDS[safe](one, made(rule), most)
                model = Reading(names, one.table, rule, most, safe)
                for _ in range(30):
                    model.play()
                    self.ask(source, desk, model, names)
                    self.assertEqual(shown(desk), model.shown(), (names, table, rule, most, safe, model.asked))
                self.assertTrue(desk.is_true or not safe)
                self.assertEqual(rule, kept)

    def test_long_desks(self):
        source = random.Random(33)
        names = list(NAMES[:11])
        table = [[((state * 3 + at) % 25, state % 7) for at in range(11)] for state in range(25)]
        rule = some_rule(source, names, ["x", "y", "z"], [1, 2, -5])
        for safe in [False, True]:
            desk = KINDS[safe](Service(names, table), made(rule), 40)
            model = Reading(names, Service(names, table).table, rule, 40, safe)
            for _ in range(200):
                model.asked.append(source.choice(names))
                desk(model.asked[-1])
            self.assertEqual(shown(desk), model.shown())
            for _ in range(90):
                desk.undo()
                model.asked.pop()
            self.assertEqual(shown(desk), model.shown())
