import copy
import random
import unittest

from anycut.errors import DoubleName, EmptyBatch, InvalidName, InvalidState, UnknownCall
from anycut.rules import Rule
from anycut.services import Service
from plain import NAMES, by_rule, made, some_rule, some_service, stand_alone
from test_services import WithErrors, flag


def tally():
    """A service that answers each call with its state, up to 4."""
    rows = [[(min(state + 1, 4), state), (0, state), (state, state)] for state in range(5)]
    return Service(["add", "zero", "look"], rows)


class Making(WithErrors):
    def test_properties(self):
        one = Rule(["on", "look"], {"b": "y", "a": "z"}, {"d": 2, "c": -1, "e": 0})
        self.assertEqual(one.early, ["look", "on"])
        self.assertEqual(one.keyed, [("a", "z"), ("b", "y")])
        self.assertEqual(one.ranks, [("c", -1), ("d", 2)])

    def test_nothing_said(self):
        for one in [Rule(), Rule([]), Rule((), None, None), Rule(early=[], keyed={}, ranks={}), Rule(ranks={"a": 0})]:
            self.assertEqual((one.early, one.keyed, one.ranks), ([], [], []))
            self.assertEqual(one, Rule())

    def test_early_as_list_and_as_tuple(self):
        self.assertEqual(Rule(["b", "a"]), Rule(("a", "b")))

    def test_names_that_count_for_nothing_stand_in_it(self):
        one = Rule(["a"], {"a": "k", "none": "k"}, {"a": 3, "none": 4})
        self.assertEqual(one.keyed, [("a", "k"), ("none", "k")])
        self.assertEqual(one.ranks, [("a", 3), ("none", 4)])

    def test_names_at_the_bounds(self):
        self.assertEqual(Rule(["abcdefgh", "a"], {"z": "zzzzzzzz"}).early, ["a", "abcdefgh"])
        many = {name: name for name in NAMES[:10]}
        ranks = {name: at - 10 ** 19 for at, name in enumerate(NAMES[:10])}
        one = Rule(list(NAMES[:10]), many, ranks)
        self.assertEqual((len(one.early), len(one.keyed), len(one.ranks)), (10, 10, 10))

    def test_invalid_names(self):
        for name in ["", "abcdefghi", "A", "a1", "a b", "\u00e4", "a\n"]:
            self.raised(InvalidName, name, Rule, [name])
            self.raised(InvalidName, name, Rule, keyed={name: "a"})
            self.raised(InvalidName, name, Rule, keyed={"a": name})
            self.raised(InvalidName, name, Rule, ranks={name: 0})

    def test_errors_in_their_sequence(self):
        keyed, ranks = {"z": "K", "b": "L", "Y": "a", "X": "a"}, {"R": 0, "Q": 1}
        self.raised(InvalidName, "B", Rule, ["a", "a", "B", "A"], keyed, ranks)
        self.raised(InvalidName, "X", Rule, ["a", "a"], keyed, ranks)
        self.raised(InvalidName, "L", Rule, ["a", "a"], {"z": "K", "b": "L"}, ranks)
        self.raised(InvalidName, "Q", Rule, ["a", "a"], {"z": "k"}, ranks)
        self.raised(InvalidName, "R", Rule, ["a", "a"], {"z": "k"}, {"R": 0})
        self.raised(DoubleName, "b", Rule, ["a", "b", "b", "a"], {"z": "k"}, {"r": 1})

    def test_behind_an_error_nothing_has_changed(self):
        early, keyed, ranks = ["b", "a", "b"], {"b": "k", "a": "k"}, {"c": 0}
        self.raised(DoubleName, "b", Rule, early, keyed, ranks)
        self.assertEqual((early, list(keyed), ranks), (["b", "a", "b"], ["b", "a"], {"c": 0}))

    def test_what_was_handed_in_is_changed_behind_the_call(self):
        early, keyed, ranks = ["look"], {"off": "k"}, {"on": 1}
        one = Rule(early, keyed, ranks)
        early.append("on")
        keyed["on"] = "k"
        keyed["off"] = "l"
        ranks.clear()
        self.assertEqual(one, Rule(["look"], {"off": "k"}, {"on": 1}))

    def test_told_lists_changed(self):
        one = Rule(["look"], {"off": "k"}, {"on": 1})
        for told in [one.early, one.keyed, one.ranks, one.order(["on"]), one.batch(flag(), ["on"])[0]]:
            told.append(None)
        self.assertEqual((one.early, one.keyed, one.ranks), (["look"], [("off", "k")], [("on", 1)]))
        self.assertTrue(stand_alone(one.early, one.early, one.keyed, one.keyed, one.ranks, one.ranks))

    def test_equality(self):
        one = Rule(["a"], {"b": "k"}, {"c": 1})
        self.assertTrue(one == Rule(("a",), {"b": "k"}, {"c": 1, "d": 0}))
        self.assertFalse(one != Rule(("a",), {"b": "k"}, {"c": 1, "d": 0}))
        for other in [
            Rule([], {"b": "k"}, {"c": 1}), Rule(["a"], {"b": "l"}, {"c": 1}), Rule(["a"], {"b": "k"}, {"c": 2}),
            Rule(["a"], {}, {"c": 1}), Rule(["a"], {"b": "k"}), None, 0, "a", ["a"],
            (one.early, one.keyed, one.ranks), flag(),
        ]:
            self.assertFalse(one == other)
            self.assertTrue(one != other)

    def test_without(self):
        one = Rule(["a", "b"], {"a": "k", "c": "k"}, {"a": 1, "c": 2})
        self.assertEqual(one.without("a"), Rule(["b"], {"c": "k"}, {"c": 2}))
        self.assertEqual(one.without(name="c"), Rule(["a", "b"], {"a": "k"}, {"a": 1}))
        self.assertEqual(one.without("k"), one)
        self.assertEqual(one.without("No name"), one)
        self.assertEqual(one, Rule(["a", "b"], {"a": "k", "c": "k"}, {"a": 1, "c": 2}))


class Order(unittest.TestCase):
    def test_empty(self):
        self.assertEqual(Rule(["a"], {"b": "k"}, {"c": 1}).order([]), [])
        self.assertTrue(stand_alone(Rule().order([]), Rule().order([])))

    def test_early_calls_are_left_out_and_do_not_skip(self):
        one = Rule(["a"], {"a": "k", "b": "k"}, {"a": -5})
        self.assertEqual(one.order(["b", "a", "c", "a"]), [0, 2])

    def test_the_last_call_of_each_key_is_done(self):
        one = Rule(keyed={"a": "k", "b": "k", "c": "l"})
        self.assertEqual(one.order(calls=["a", "c", "d", "b", "d", "c", "a", "d"]), [2, 4, 5, 6, 7])
        self.assertEqual(one.order(["a", "a", "a"]), [2])

    def test_a_key_is_not_the_call_of_that_name(self):
        self.assertEqual(Rule(keyed={"a": "b", "b": "c"}).order(["a", "b", "c"]), [0, 1, 2])

    def test_ranks(self):
        one = Rule(ranks={"a": 2, "b": -1, "c": 2, "d": 0})
        self.assertEqual(one.order(["a", "d", "c", "b", "e", "a", "b"]), [3, 6, 1, 4, 0, 2, 5])
        self.assertEqual(Rule(ranks={"a": 10 ** 19, "b": -10 ** 19}).order(["a", "c", "b"]), [2, 1, 0])

    def test_skipped_whatever_the_ranks(self):
        one = Rule(keyed={"a": "k", "b": "k"}, ranks={"a": -1, "b": 5})
        self.assertEqual(one.order(["b", "c", "a"]), [2, 1])
        self.assertEqual(one.order(["a", "c", "b"]), [1, 2])


class Batches(WithErrors):
    def test_early_calls_are_answered_by_the_state_ahead_and_change_nothing(self):
        one = Rule(["zero", "look"])
        self.assertEqual(one.batch(tally(), ["add", "zero", "add", "look"], 1), ([1, 1, 2, 1], 3))
        self.assertEqual(one.batch(tally(), ["zero"], 3), ([3], 3))

    def test_skipped_calls_are_answered_none(self):
        one = Rule(keyed={"add": "k", "zero": "k"})
        self.assertEqual(one.batch(tally(), ["add", "look", "zero", "add"]), ([None, 0, None, 0], 1))

    def test_answers_in_the_sequence_of_the_batch(self):
        one = Rule(ranks={"look": 1, "zero": -1})
        self.assertEqual(one.batch(tally(), ["look", "add", "zero", "add"], 3), ([2, 0, 3, 1], 2))

    def test_from_another_state_and_by_name(self):
        self.assertEqual(Rule().batch(service=tally(), calls=["look"], state=2), ([2], 2))
        self.assertEqual(Rule().batch(tally(), ["look"]), ([0], 0))

    def test_as_the_document_says(self):
        source = random.Random(5)
        for _ in range(500):
            names, table = some_service(source, 6, 6)
            one = Service(names, table)
            rule = some_rule(source, list(NAMES[:7]), ["x", "y", "a"], [-3, 0, 2, 10 ** 19])
            state = source.randrange(len(one))
            batch = [source.choice(names) for _ in range(source.randint(1, 12))]
            self.assertEqual(made(rule).batch(one, batch, state), by_rule(names, one.table, rule, batch, state))

    def test_long_batches_of_great_services(self):
        names = list(NAMES[:11])
        table = [[((state * 2 + at) % 25, 10 ** 19 + state) for at in range(11)] for state in range(25)]
        one = Service(names, table)
        rule = (["a", "b"], {"c": "x", "d": "x", "e": "y"}, {"f": 1, "g": -1, "h": 2})
        batch = [names[(at * 7) % 11] for at in range(40)]
        self.assertEqual(made(rule).batch(one, batch, 3), by_rule(names, one.table, rule, batch, 3))

    def test_errors_in_their_sequence(self):
        self.raised(EmptyBatch, 0, Rule().batch, flag(), [], 9)
        self.raised(EmptyBatch, 0, Rule().batch, flag(), [])
        self.raised(InvalidState, 2, Rule().batch, flag(), ["of"], 2)
        self.raised(InvalidState, -1, Rule().batch, flag(), ["on"], -1)
        self.raised(UnknownCall, "of", Rule().batch, flag(), ["on", "of", "no"])
        self.raised(UnknownCall, "of", Rule(["of"]).batch, flag(), ["on", "of"])
        self.raised(UnknownCall, "of", Rule(keyed={"of": "k", "on": "k"}).batch, flag(), ["of", "on"])
        self.raised(UnknownCall, "on", Rule(ranks={"no": -1}).batch, tally(), ["on", "no"])

    def test_arguments_are_not_changed(self):
        one, rule, batch = flag(), Rule(["look"], {"on": "k"}, {"off": -1}), ["on", "look", "on", "off"]
        kept = copy.deepcopy(batch)
        rule.batch(one, batch)
        rule.order(batch)
        self.raised(UnknownCall, "no", rule.batch, one, ["on", "no"])
        self.assertEqual((batch, one), (kept, flag()))
        self.assertEqual(rule, Rule(["look"], {"on": "k"}, {"off": -1}))
