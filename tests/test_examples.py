"""The examples of the document, with just the answers that stand there."""

import unittest

from anycut.cuts import (
    first_unlike, is_right, is_right_cut, least_left_out, may_change, play, right_length, wrong_cut,
)
from anycut.rules import Rule
from anycut.services import Service, reduced, side


class Examples(unittest.TestCase):
    def setUp(self):
        self.flag = Service(
            ["off", "on", "look"], [[(0, None), (1, None), (0, 0)], [(0, None), (1, None), (1, 1)]])
        self.last, self.ahead = Rule(keyed={"off": "set", "on": "set"}), Rule(["look"])

    def test_services(self):
        flag = self.flag
        tally = Service(["add"], [[(1, 1)], [(2, 2)], [(2, 2)]])
        self.assertEqual(
            repr([flag.calls, len(flag), flag["look"], flag.run(["on", "look", "off", "look"]),
                  flag.run(["look"], 1), side(flag, tally).calls, len(side(flag, tally)), reduced(tally) == tally]),
            "[['off', 'on', 'look'], 2, [(0, 0), (1, 1)], ([None, 1, None, 0], 0), ([1], 1), "
            "['off', 'on', 'look', 'add'], 6, False]")
        self.assertEqual(
            repr([reduced(tally).table, Service(["a"], [[(2, 5)], [(0, 7)], [(2, 5)]]).table]),
            "[[[(1, 1)], [(1, 2)]], [[(1, 5)], [(1, 5)]]]")

    def test_rules(self):
        flag, last, ahead = self.flag, self.last, self.ahead
        self.assertEqual(
            repr([last.order(["on", "look", "off"]), last.batch(flag, ["on", "look", "off"]),
                  ahead.batch(flag, ["on", "look"]), Rule(ranks={"look": -1}).order(["on", "look", "off"]),
                  last.without("on").keyed]),
            "[[1, 2], ([None, 0, None], 0), ([None, 0], 1), [1, 0, 2], [('off', 'set')]]")

    def test_cuts(self):
        flag, last, ahead = self.flag, self.last, self.ahead
        self.assertEqual(
            repr([wrong_cut(flag, last), wrong_cut(flag, ahead), right_length(flag, last), right_length(flag, ahead),
                  is_right(flag, Rule()), right_length(flag, Rule()),
                  is_right_cut(flag, ahead, [["on"], ["look", "off"]]), play(flag, ahead, [["on", "look"]])]),
            "[([], ['on', 'look', 'off']), ([], ['on', 'look']), 2, 1, True, None, True, [([None, 0], 1)]]")
        self.assertEqual(
            repr([least_left_out(flag, last), least_left_out(flag, ahead), may_change(flag),
                  first_unlike(flag, last, Rule()),
                  first_unlike(flag, Rule(ranks={"on": 1, "off": 1}), Rule(ranks={"look": -1}))]),
            "[[['off', 'on']], [['look']], [], ([], ['on', 'look', 'off']), None]")
