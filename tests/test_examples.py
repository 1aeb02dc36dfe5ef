"""The examples of the document, with just the answers that stand there."""

import unittest

from anycut.cuts import (
    first_unlike, is_right, is_right_cut, least_left_out, may_change, play, right_length, wrong_cut,
)
from anycut.desks import Desk, SafeDesk
from anycut.maps import all_maps, do_same, exchanges, idle, least_row, led, map_of, settling
from anycut.readings import read_rule, read_service
from anycut.rules import Rule
from anycut.services import Service, reduced, side
from anycut.texts import show_rule, show_service


class Examples(unittest.TestCase):
    def setUp(self):
        self.flag = Service(
            ["off", "on", "look"], [[(0, None), (1, None), (0, 0)], [(0, None), (1, None), (1, 1)]])
        self.last, self.ahead = Rule(keyed={"off": "set", "on": "set"}), Rule(["look"])

    def test_services(self):
        flag = self.flag
        tally = Service(["add"], [[(1, 1)], [(2, 2)], [(2, 2)]])
        self.assertEqual(
            repr([flag.calls, len(flag), flag["look"], flag.run(["on", "look", "off", "look"]),
                  flag.run(["look"], 1), side(flag, tally).calls, len(side(flag, tally)), reduced(tally) == tally]),
            "[['off', 'on', 'look'], 2, [(0, 0), (1, 1)], ([None, 1, None, 0], 0), ([1], 1), "
            "['off', 'on', 'look', 'add'], 6, False]")
        self.assertEqual(
            repr([reduced(tally).table, Service(["a"], [[(2, 5)], [(0, 7)], [(2, 5)]]).table]),
            "[[[(1, 1)], [(1, 2)]], [[(1, 5)], [(1, 5)]]]")

    def test_rules(self):
        flag, last, ahead = self.flag, self.last, self.ahead
        self.assertEqual(
            repr([last.order(["on", "look", "off"]), last.batch(flag, ["on", "look", "off"]),
                  ahead.batch(flag, ["on", "look"]), Rule(ranks={"look": -1}).order(["on", "look", "off"]),
                  last.without("on").keyed]),
            "[[1, 2], ([None, 0, None], 0), ([None, 0], 1), [1, 0, 2], [('off', 'set')]]")

    def test_cuts(self):
        flag, last, ahead = self.flag, self.last, self.ahead
        self.assertEqual(
            repr([wrong_cut(flag, last), wrong_cut(flag, ahead), right_length(flag, last), right_length(flag, ahead),
                  is_right(flag, Rule()), right_length(flag, Rule()),
                  is_right_cut(flag, ahead, [["on"], ["look", "off"]]), play(flag, ahead, [["on", "look"]])]),
            "[([], ['on', 'look', 'off']), ([], ['on', 'look']), 2, 1, True, None, True, [([None, 0], 1)]]")
        self.assertEqual(
            repr([least_left_out(flag, last), least_left_out(flag, ahead), may_change(flag),
                  first_unlike(flag, last, Rule()),
                  first_unlike(flag, Rule(ranks={"on": 1, "off": 1}), Rule(ranks={"look": -1}))]),
            "[[['off', 'on']], [['look']], [], ([], ['on', 'look', 'off']), None]")

    def test_maps(self):
        flag = self.flag
        self.assertEqual(
            repr([map_of(flag, ["on", "look"]), all_maps(flag), least_row(flag, ["on", "off", "look"]),
                  do_same(flag, ["look"], []), settling(flag), idle(flag)]),
            "[[1, 1], [[0, 0], [0, 1], [1, 1]], ['off'], True, ['off', 'on'], ['look']]")
        self.assertEqual(
            repr([exchanges(flag), led(flag, ["on", "look", "off"])]),
            "[[(['look'], []), (['off', 'off'], ['off']), (['off', 'on'], ['on']), (['on', 'off'], ['off']), "
            "(['on', 'on'], ['on'])], [['on', 'look', 'off'], ['on', 'off'], ['off']]]")

    def test_desks(self):
        desk, calm = Desk(self.flag, Rule(["look"]), 3), SafeDesk(self.flag, Rule(["look"]))
        self.assertEqual(
            repr([desk("on"), desk("look"), desk("off"), desk.is_true, desk.state, desk.cut, desk.undo(),
                  desk.waiting, len(desk)]),
            "[None, None, [None, 0, None], False, 0, [['on', 'look', 'off']], None, ['on', 'look'], 0]")
        self.assertEqual(
            repr([calm("on"), calm("look"), calm.waiting, calm.done(), calm.answers, calm.is_true]),
            "[None, [None], ['look'], [1], [None, 1], True]")

    def test_texts_and_readings(self):
        flag = Service(["off", "look"], [[(0, None), (0, 0)]])
        self.assertEqual(
            repr([show_service(flag), read_service("off look; 0/- 0/0") == flag,
                  show_rule(Rule(["look"], {"off": "a"}, {"b": -2, "c": 0})), show_rule(Rule()),
                  read_rule("keyed off=a") == Rule(keyed={"off": "a"})]),
            "['off look; 0/- 0/0', True, 'early look; keyed off=a; ranks b=-2', 'plain', True]")
