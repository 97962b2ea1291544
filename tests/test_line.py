"""A list's beginning, refusals that change nothing, and how lists are handed in and given back."""

import unittest

from marathonday.marathon import answers
from tests.helper import GREATEST, NAMES, SIZES, any_call, asked, flat, last, probe, run

# An object on which each kind of thing is there.
FULL = [
    ("begin", 60, 10, 2),
    ("wave", 5, 3, 25, 4), ("wave", 0, 2, 8, 7),
    ("table", 3, 2, 50), ("bring", 0, 12, 7), ("bring", 0, 2, 9), ("table", 0, 1, 4),
    ("crossing", 4), ("crossing", 9),
    ("place",), ("place",), ("road", 0, 1, 9, 1),
    ("home", 33),
]

# Calls that are refused there.
REFUSED = [
    ("begin", 0, 10, 2), ("begin", 60, 0, 2), ("begin", 60, 10, 9),
    ("wave", 201, 1, 1, 0), ("wave", 0, 61, 1, 0),
    ("shift", 2, 0), ("shift", 0, 201), ("drop", 2), ("wide", 0), ("wide", 1001),
    ("set_plan",), ("all_later", 0), ("all_later", 196),
    ("table", 101, 1, 0), ("table", 0, 10, 0),
    ("bring", 2, 0, 1), ("bring", 0, 60, 1), ("bring", 0, 0, 0),
    ("take", 1), ("take", 2), ("stock", 2, 0), ("stock", 0, 100001), ("level",),
    ("crossing", 101), ("gap", 0), ("gap", 9),
    ("road", 0, 2, 1, 0), ("road", 0, 1, 1, 3), ("road", 0, 0, 1, 0), ("road", 0, 1, 101, 0),
    ("home", 101),
    ("comes", 601), ("waits", 601), ("goes", 601), ("holds", 601), ("holds", 0),
    ("least_wide", 101), ("in_turn", [0, 0]), ("in_turn", [1, 0]), ("plan",),
    ("passing", 101, 0), ("passing", 0, 60),
    ("wants", 2, 0), ("wants", 0, 60), ("there", 2, 0), ("there", 0, 60), ("least", 2),
    ("short", 2), ("latest", 2, 1), ("latest", 0, 0), ("latest", 0, 100001), ("latest", 0, 1),
    ("fewest", 2, 100), ("fewest", 0, 49), ("fewest", 0, 100001), ("fewest", 1, 9), ("steps",),
    ("runs", 2, 0), ("runs", 0, 60), ("open", 2, 0), ("open", 0, 60), ("next", 2, 0), ("next", 0, 60),
    ("shuts", 2), ("shut_longest", 2), ("held", 2, 1), ("held", 0, 0), ("held", 0, 121), ("least_most", 2, 0),
    ("arrive", 2, 0, 0), ("arrive", 0, 2, 0), ("arrive", 0, 1, 60), ("all", 2, 0), ("all", 0, 60),
    ("leave", 2, 0, 0), ("leave", 0, 2, 0), ("leave", 0, 1, 60), ("leave", 0, 1, 0), ("worst", 2, 0), ("worst", 0, 2),
    ("home_by", 60), ("nth", 0), ("nth", 92), ("best_start", 2, 0), ("best_start", 0, 201),
    ("cups_if", 0), ("cups_if", 1001), ("widest", 0), ("widest", 101), ("widest", 1),
    ("look_wave", 2), ("look_table", 2), ("look_road", 1), ("again",),
]

# Calls that answer something there and may not change anything.
ASKS = [
    ("comes", 9), ("waits", 9), ("goes", 9), ("holds", 9), ("longest",), ("most",), ("total",), ("clear",),
    ("least_wide", 3), ("passing", 3, 12), ("wants", 0, 12), ("there", 0, 12), ("least", 0),
    ("short", 0), ("enough",), ("apart",), ("together",), ("latest", 0, 1000), ("fewest", 0, 100),
    ("runs", 0, 12), ("open", 0, 12), ("next", 0, 12), ("shuts", 0), ("shut_longest", 0), ("held", 0, 3),
    ("least_most", 0, 1), ("marshals",), ("duties",),
    ("arrive", 0, 1, 9), ("all", 0, 9), ("leave", 0, 1, 30), ("worst", 0, 1),
    ("home_by", 50), ("nth", 9), ("best_start", 0, 30), ("cups_if", 7),
    ("look_wave", 0), ("look_table", 0), ("look_road", 0), ("sums",), ("state",),
]


class NotBegun(unittest.TestCase):
    def test_there_are_64_calls(self):
        self.assertEqual(len(NAMES), 64)
        self.assertEqual(len(SIZES), 64)

    def test_every_other_call_is_refused(self):
        for name in NAMES[1:]:
            for number in (0, 1, GREATEST):
                call = any_call(name, min(number, 10) if name == "in_turn" else number)
                self.assertEqual(run(call, call, ("comes", 0)), [[-61]] * 3, call)

    def test_rows_of_every_length_are_passed_over(self):
        for long in range(11):
            self.assertEqual(run(("in_turn", [GREATEST] * long), ("begin", 1, 1, 1), ("clear",)), [[-61], [0], [0]])

    def test_till_a_begin_is_answered_0(self):
        told = run(("place",), ("begin", 0, 1, 1), ("place",), ("begin", 1, 1, 1), ("place",))
        self.assertEqual(told, [[-61], [-22], [-61], [0], [0]])

    def test_not_begun_goes_ahead_of_all_other_refusals(self):
        self.assertEqual(run(("drop", 9), ("wide", 0), ("comes", 601), ("take", 0)), [[-61]] * 4)

    def test_nothing_of_a_call_that_is_not_begun_is_kept(self):
        told = run(("wave", 0, 1, 1, 0), ("home", 7), ("begin", 9, 1, 1), ("total",), ("home", 0))
        self.assertEqual(told[2:], [[0], [0, 0], [0]])


class Refusals(unittest.TestCase):
    def test_a_refusal_is_one_number_below_0_and_changes_nothing(self):
        expected = asked(FULL, *probe())
        for call in REFUSED:
            told = asked(FULL, call, *probe())
            self.assertEqual(len(told[0]), 1, call)
            self.assertLess(told[0][0], 0, call)
            self.assertEqual(told[1:], expected, call)

    def test_a_call_that_asks_changes_nothing(self):
        expected = asked(FULL, *probe())
        for call in ASKS:
            told = asked(FULL, call, *probe())
            self.assertGreaterEqual(told[0][0], 0, call)
            self.assertEqual(told[1:], expected, call)

    def test_the_widest_and_the_steps_that_are_asked_change_nothing(self):
        before = FULL + [("stock", 0, 100000), ("stock", 1, 91)]
        before = before + [("stock", 0, last(*before, ("least", 0))[0])]
        expected = asked(before, *probe())
        for call in (("widest", 50), ("steps",)):
            told = asked(before, call, *probe())
            self.assertGreaterEqual(told[0][0], 0, call)
            self.assertEqual(told[1:], expected, call)

    def test_each_call_is_among_these(self):
        self.assertEqual(set(NAMES) - {call[0] for call in FULL + REFUSED + ASKS}, {"back"})

    def test_orders_and_plans_that_are_asked_change_nothing(self):
        before = FULL + [("wide", 25)]
        expected = asked(before, *probe())
        for call in (("in_turn", [1, 0]), ("in_turn", [0, 1]), ("plan",)):
            told = asked(before, call, *probe())
            self.assertGreaterEqual(told[0][0], 0, call)
            self.assertEqual(told[1:], expected, call)

    def test_what_there_is_no_room_for_changes_nothing(self):
        full = [("begin", 60, 10, 2)] + [("wave", 0, 1, 1, 0)] * 8 + [("table", 0, 1, 0)] * 5
        full += [("bring", 0, 0, 1)] * 6 + [("crossing", 0)] * 6 + [("place",)] * 6 + [("road", 0, 1, 1, 0)] * 12
        expected = asked(full, *probe())
        for call in (("wave", 1, 2, 3, 4), ("table", 1, 2, 3), ("bring", 0, 1, 2), ("crossing", 1), ("place",),
                     ("road", 1, 0, 2, 1)):
            told = asked(full, call, *probe())
            self.assertEqual(told[0], [-28], call)
            self.assertEqual(told[1:], expected, call)


class Again(unittest.TestCase):
    def test_a_later_begin_leaves_nothing_there(self):
        for begin in (("begin", 60, 10, 2), ("begin", 20, 3, 8)):
            self.assertEqual(asked(FULL, begin, *probe()), run(begin, *probe()))

    def test_a_refused_begin_leaves_all_as_it_was(self):
        expected = asked(FULL, *probe())
        for begin in (("begin", 121, 10, 2), ("begin", 20, 1001, 2), ("begin", 20, 3, 0)):
            self.assertEqual(asked(FULL, begin, *probe()), [[-22]] + expected)


class Lists(unittest.TestCase):
    def test_how_many_numbers_stand_before_each_answer(self):
        calls = [0, 60, 10, 2, 1, 5, 3, 25, 4, 21, 23, 3, 9, 27, 4, 25, 27, 26, 1, 0, 24]
        self.assertEqual(answers(calls), [
            1, 0, 1, 0, 2, 45, 11, 2, 170, 75, 1, -2, 1, -33, 1, 10, 3, 7, 0, 0, 2, 7, 0, 1, 12])

    def test_a_number_below_0_behind_a_first_one(self):
        self.assertEqual(answers([0, 9, 5, 1, 1, 0, 1, 5, 0, 7, 0, 1, 2, 30, 0, 0]), [1, 0, 1, 0, 1, 0, 2, 0, -3])

    def test_the_list_is_as_it_was(self):
        ways = [("wide", 25), ("in_turn", [1, 0]), ("set_plan",), ("level",), ("back",), ("again",), ("drop", 0)]
        for more in (ASKS, REFUSED[:60], REFUSED[60:], ways, probe()):
            calls = flat(FULL + more)
            kept = list(calls)
            answers(calls)
            self.assertEqual(calls, kept)

    def test_two_times_one_behind_another_give_the_same(self):
        for more in (ASKS, REFUSED[:60], REFUSED[60:], probe(), [("back",)] * 11 + [("again",)] * 11):
            calls = flat(FULL + more)
            first = answers(calls)
            other = answers(flat([("begin", 120, 1, 1), ("wave", 0, 1, 1, 0), ("home", 9)]))
            self.assertEqual(other, [1, 0, 1, 0, 1, 0])
            self.assertEqual(answers(calls), first)
            self.assertEqual(answers(flat([("clear",), ("back",), ("again",), ("state",)])), [1, -61] * 4)

    def test_nothing_to_take_back_is_kept_from_the_time_before(self):
        answers(flat(FULL + [("back",)]))
        self.assertEqual(run(("begin", 9, 1, 1), ("back",), ("again",)), [[0], [-2], [-2]])

    def test_what_is_given_back_is_not_kept(self):
        calls = flat(FULL + [("wide", 25), ("plan",)])
        first = answers(calls)
        kept = list(first)
        first.append(9)
        first[0] = 77
        self.assertEqual(answers(calls), kept)

    def test_as_many_calls_as_a_line_holds(self):
        told = run(("begin", 120, 1, 1), *[("wide", 1 + i) for i in range(119)])
        self.assertEqual(told, [[0], [1]] + [[1 + i] for i in range(118)])

    def test_the_greatest_numbers_are_refused(self):
        for name in NAMES:
            call = any_call(name, GREATEST)
            if SIZES[name] != 0:
                self.assertLess(last(*FULL, call)[0], 0, call)


if __name__ == "__main__":
    unittest.main()
