"""Point 6: changes that are taken back, and done again."""

import random
import unittest

from tests.helper import asked, last, probe, run

DAY = [("begin", 60, 10, 2)]

# An object on which each kind of thing is there, and its last change was long ago.
FULL = DAY + [
    ("wave", 5, 3, 9, 4), ("wave", 0, 2, 8, 7), ("table", 3, 2, 22), ("bring", 0, 12, 7), ("table", 0, 1, 120),
    ("crossing", 4), ("crossing", 9), ("place",), ("place",), ("road", 0, 1, 9, 1), ("home", 33)]

# Each call that can change something, so that it does.
CHANGES = [
    ("wave", 1, 2, 3, 4), ("shift", 0, 6), ("drop", 0), ("drop", 1), ("wide", 11), ("set_plan",), ("all_later", 1),
    ("table", 1, 2, 3), ("bring", 0, 12, 7), ("take", 0), ("stock", 0, 23), ("stock", 1, 0),
    ("crossing", 4), ("gap", 3), ("place",), ("road", 0, 1, 9, 1), ("home", 32)]

# Calls that are answered from 0 on, and leave all as it was.
IDLE = [
    ("shift", 0, 5), ("shift", 1, 0), ("wide", 10), ("stock", 0, 22), ("stock", 1, 120), ("gap", 2), ("home", 33),
    ("state",), ("sums",), ("look_wave", 0), ("look_table", 0), ("look_road", 0), ("plan",), ("in_turn", [1, 0]),
    ("best_start", 0, 9), ("cups_if", 3), ("latest", 1, 5), ("fewest", 0, 40), ("short", 0), ("duties",),
    ("held", 0, 2), ("least_most", 0, 1), ("arrive", 0, 1, 0), ("all", 0, 0), ("leave", 0, 1, 30), ("worst", 0, 1),
    ("home_by", 59), ("nth", 1), ("comes", 9), ("passing", 0, 9), ("apart",), ("together",), ("enough",)]

REFUSED = [
    ("begin", 0, 10, 2), ("begin", 121, 10, 2), ("begin", 60, 0, 2), ("begin", 60, 10, 9), ("wave", 201, 1, 1, 0),
    ("shift", 9, 0), ("drop", 9), ("wide", 0), ("all_later", 0), ("table", 101, 1, 0), ("take", 1), ("level",),
    ("crossing", 101), ("gap", 9), ("road", 0, 0, 1, 0), ("home", 101), ("steps",), ("look_road", 9)]


def shown(*calls):
    """All that can be seen of the object behind these calls."""
    return asked(list(calls), *probe())


class Back(unittest.TestCase):
    def test_nothing_to_take_back(self):
        self.assertEqual(run(*DAY, ("back",), ("back",), ("state",)), [[0], [-2], [-2], [60, 0, 10, 0, 0, 0, 0, 0]])

    def test_not_begun(self):
        self.assertEqual(run(("back",), ("again",)), [[-61], [-61]])

    def test_how_many_can_still_be(self):
        told = asked(DAY, ("wide", 5), ("place",), ("home", 7), ("back",), ("state",), ("back",), ("state",), ("back",),
                     ("state",), ("back",), ("state",))
        self.assertEqual(told[3:], [[2], [60, 0, 5, 0, 0, 1, 0, 0], [1], [60, 0, 5, 0, 0, 0, 0, 0],
                                    [0], [60, 0, 10, 0, 0, 0, 0, 0], [-2], [60, 0, 10, 0, 0, 0, 0, 0]])

    def test_each_kind_of_change(self):
        before = shown(*FULL)
        for call in CHANGES:
            self.assertGreaterEqual(last(*FULL, call)[0], 0, call)
            self.assertNotEqual(shown(*FULL, call), before, call)
            told = asked(FULL, call, ("back",), *probe())
            self.assertEqual(told[1:], [[9]] + before, call)
            told = asked(FULL, call, ("back",), ("again",), *probe())
            self.assertEqual(told[2:], [[0]] + shown(*FULL, call), call)

    def test_a_level(self):
        tables = DAY + [("wave", 0, 1, 10, 0), ("table", 0, 1, 30), ("table", 1, 2, 0)]
        told = asked(tables, ("level",), ("look_table", 0), ("look_table", 1), ("back",), ("look_table", 0),
                     ("look_table", 1), ("again",), ("look_table", 0), ("look_table", 1))
        self.assertEqual(told, [[20], [10, 0, 1], [20, 1, 2], [3], [30, 0, 1], [0, 1, 2], [0], [10, 0, 1], [20, 1, 2]])

    def test_a_dropped_wave_is_in_its_place_again(self):
        told = asked(FULL, ("drop", 0), ("back",), ("look_wave", 0), ("look_wave", 1))
        self.assertEqual(told[2:], [[5, 3, 9, 4], [0, 2, 8, 7]])

    def test_a_taken_delivery_is_there_again(self):
        told = asked(FULL, ("take", 0), ("look_table", 0), ("back",), ("look_table", 0), ("again",), ("take", 0))
        self.assertEqual(told, [[7], [22, 3, 2], [9], [22, 3, 2, 12, 7], [0], [-6]])

    def test_several_tables_and_waves_at_once(self):
        told = asked(FULL, ("set_plan",), ("all_later", 9), ("back",), ("back",), ("look_wave", 0), ("look_wave", 1))
        self.assertEqual(told[2:], [[9], [8], [5, 3, 9, 4], [0, 2, 8, 7]])

    def test_the_last_ten(self):
        for many in (9, 10, 11, 12, 25):
            told = asked(DAY, *[("wide", 100 + n) for n in range(many)], *[("back",)] * 11, ("state",))
            can = min(many, 10)
            self.assertEqual(told[many:-1], [[n] for n in reversed(range(can))] + [[-2]] * (11 - can), many)
            self.assertEqual(told[-1][2], 10 if many <= 10 else 100 + many - 11, many)

    def test_behind_some_that_were_taken_back_there_is_room_for_others(self):
        tens = [("wide", 100 + n) for n in range(12)]
        told = asked(DAY, *tens, ("back",), ("back",), ("back",), ("home", 1), *[("back",)] * 9, ("state",))
        self.assertEqual(told[12:], [[9], [8], [7], [0]] + [[n] for n in (7, 6, 5, 4, 3, 2, 1, 0)] + [
            [-2], [60, 0, 101, 0, 0, 0, 0, 0]])


class NoChange(unittest.TestCase):
    def test_what_leaves_all_as_it_was(self):
        before = shown(*FULL)
        for call in IDLE:
            self.assertGreaterEqual(last(*FULL, call)[0], 0, call)
            self.assertEqual(shown(*FULL, call), before, call)
            self.assertEqual(asked(FULL, ("place",), call, ("back",), *probe())[2:], [[9]] + before, call)

    def test_one_by_one(self):
        for told, idle in (
                (("wave", 7, 1, 1, 0), ("shift", 0, 7)), (("wide", 3), ("wide", 3)), (("gap", 5), ("gap", 5)),
                (("home", 9), ("home", 9)), (("table", 0, 1, 6), ("stock", 0, 6)), (("wave", 0, 1, 1, 5), ("set_plan",)),
                (("table", 0, 1, 0), ("level",)), (("place",), ("level",)), (("place",), ("set_plan",)),
                (("place",), ("all_later", 5)), (("place",), ("home", 0)), (("place",), ("wide", 10)),
                (("place",), ("gap", 2))):
            numbers = run(*DAY, told, idle, ("back",), ("back",))
            self.assertGreaterEqual(numbers[2][0], 0, idle)
            self.assertEqual(numbers[3:], [[0], [-2]], (told, idle))

    def test_a_plan_that_is_set_already(self):
        waves = FULL + [("set_plan",)]
        told = asked(waves, ("set_plan",), ("back",), ("look_wave", 0), ("look_wave", 1))
        self.assertEqual(told, [[2], [9], [5, 3, 9, 4], [0, 2, 8, 7]])

    def test_a_level_that_alters_nothing(self):
        tables = DAY + [("wave", 0, 1, 10, 0), ("table", 0, 1, 30), ("table", 1, 2, 0), ("level",)]
        told = asked(tables, ("level",), ("back",), ("look_table", 0), ("back",), ("state",))
        self.assertEqual(told, [[0], [3], [30, 0, 1], [2], [60, 1, 10, 1, 0, 0, 0, 0]])

    def test_they_leave_what_can_be_done_again(self):
        for call in IDLE:
            told = asked(FULL, ("place",), ("gap", 7), ("back",), ("back",), call, ("again",), ("again",), ("again",))
            self.assertEqual(told[5:], [[1], [0], [-2]], call)

    def test_to_and_fro_are_two_changes(self):
        told = asked(DAY, ("wide", 11), ("wide", 10), ("back",), ("state",), ("back",), ("back",))
        self.assertEqual(told[2:], [[1], [60, 0, 11, 0, 0, 0, 0, 0], [0], [-2]])


class Refused(unittest.TestCase):
    def test_between_a_back_and_its_again(self):
        for call in REFUSED:
            told = asked(FULL, ("place",), ("gap", 7), ("back",), ("back",), call, ("again",), ("again",), ("again",),
                         *probe())
            self.assertLess(told[4][0], 0, call)
            self.assertEqual(told[5:8], [[1], [0], [-2]], call)
            self.assertEqual(told[8:], shown(*FULL, ("place",), ("gap", 7)), call)

    def test_they_are_no_changes(self):
        for call in REFUSED:
            self.assertEqual(asked(FULL, ("place",), call, ("back",), *probe())[2:], [[9]] + shown(*FULL), call)

    def test_a_back_and_an_again_that_are_refused(self):
        told = asked(DAY, ("back",), ("again",), ("place",), ("again",), ("back",), ("back",), ("again",), ("again",),
                     ("state",))
        self.assertEqual(told, [[-2], [-2], [0], [-2], [0], [-2], [0], [-2], [60, 0, 10, 0, 0, 1, 0, 0]])


class Again(unittest.TestCase):
    def test_nothing_to_do_again(self):
        self.assertEqual(run(*DAY, ("again",), ("place",), ("again",)), [[0], [-2], [0], [-2]])

    def test_how_many_there_still_are(self):
        told = asked(DAY, ("wide", 5), ("place",), ("home", 7), ("back",), ("back",), ("back",), ("again",), ("state",),
                     ("again",), ("state",), ("again",), ("state",), ("again",), ("state",))
        self.assertEqual(told[6:], [[2], [60, 0, 5, 0, 0, 0, 0, 0], [1], [60, 0, 5, 0, 0, 1, 0, 0],
                                    [0], [60, 0, 5, 0, 0, 1, 0, 7], [-2], [60, 0, 5, 0, 0, 1, 0, 7]])

    def test_of_ten_and_one_more(self):
        told = asked(DAY, *[("wide", 100 + n) for n in range(11)], *[("back",)] * 11, *[("again",)] * 11, ("state",))
        self.assertEqual(told[11:], [[n] for n in range(9, -1, -1)] + [[-2]] + [[n] for n in range(9, -1, -1)] + [
            [-2], [60, 0, 110, 0, 0, 0, 0, 0]])

    def test_what_was_done_again_can_be_taken_back_again(self):
        told = asked(DAY, *[("wide", 100 + n) for n in range(11)], *[("back",)] * 10, *[("again",)] * 10,
                     *[("back",)] * 11, ("state",))
        self.assertEqual(told[31:], [[n] for n in range(9, -1, -1)] + [[-2], [60, 0, 100, 0, 0, 0, 0, 0]])

    def test_to_and_fro(self):
        told = asked(DAY, ("wide", 5), ("wide", 6), *[("back",), ("again",)] * 4, ("state",))
        self.assertEqual(told[2:], [[1], [0]] * 4 + [[60, 0, 6, 0, 0, 0, 0, 0]])

    def test_till_another_change(self):
        told = asked(DAY, ("wide", 5), ("wide", 6), ("wide", 7), ("back",), ("back",), ("home", 9), ("again",),
                     ("state",), ("back",), ("again",), ("again",), ("state",))
        self.assertEqual(told[6:], [[-2], [60, 0, 5, 0, 0, 0, 0, 9], [1], [0], [-2], [60, 0, 5, 0, 0, 0, 0, 9]])

    def test_the_same_change_is_another_one(self):
        told = asked(DAY, ("wide", 5), ("wide", 6), ("back",), ("back",), ("wide", 5), ("again",))
        self.assertEqual(told[4:], [[10], [-2]])

    def test_some_again_and_then_another_change(self):
        told = asked(DAY, ("wide", 5), ("wide", 6), ("wide", 7), ("back",), ("back",), ("again",), ("place",),
                     ("again",), ("back",), ("back",), ("back",), ("back",))
        self.assertEqual(told[7:], [[-2], [2], [1], [0], [-2]])


class Begin(unittest.TestCase):
    def test_it_leaves_none_of_either(self):
        told = asked(FULL, ("back",), ("back",), ("begin", 60, 10, 2), ("back",), ("again",), ("place",), ("back",),
                     ("back",), ("again",), ("again",))
        self.assertEqual(told[2:], [[0], [-2], [-2], [0], [0], [-2], [0], [-2]])

    def test_it_is_no_change_itself(self):
        self.assertEqual(run(("begin", 9, 1, 1), ("begin", 60, 10, 2), ("back",), ("state",))[2:],
                         [[-2], [60, 0, 10, 0, 0, 0, 0, 0]])

    def test_a_refused_one_leaves_all(self):
        told = asked(DAY, ("place",), ("place",), ("back",), ("begin", 60, 1001, 2), ("again",), ("back",), ("back",),
                     ("back",))
        self.assertEqual(told[2:], [[1], [-22], [0], [1], [0], [-2]])


class Walks(unittest.TestCase):
    """Calls in a row as they come; what can be seen is held against the same changes told to a new object."""

    def some_call(self, source):
        return source.choice([
            ("back",), ("back",), ("again",), ("again",), source.choice(CHANGES), source.choice(IDLE),
            source.choice(REFUSED[4:]), ("wave", source.randint(0, 9), 1, source.randint(1, 20), source.randint(0, 9)),
            ("shift", source.randint(0, 3), source.randint(0, 5)), ("drop", source.randint(0, 3)),
            ("wide", source.randint(9, 12)), ("gap", source.randint(1, 3)), ("home", source.randint(30, 33)),
            ("stock", source.randint(0, 2), source.randint(20, 23)), ("table", source.randint(0, 9), 1, 0),
            ("bring", source.randint(0, 2), source.randint(0, 20), source.randint(1, 9)), ("take", 0), ("level",),
            ("set_plan",), ("all_later", 1), ("crossing", source.randint(0, 20)), ("place",),
            ("road", source.randint(0, 2), source.randint(0, 2), source.randint(1, 9), source.randint(0, 2))])

    def test_walks(self):
        source = random.Random(60)
        for number in range(60):
            done = list(DAY)
            # Each a row of calls that makes an object as it was, or would be.
            now, past, ahead = list(DAY), [], []
            for step in range(40):
                call = self.some_call(source)
                told = last(*done, call)
                done.append(call)
                if call == ("back",):
                    self.assertEqual(told, [len(past) - 1] if past else [-2], done)
                    if past:
                        ahead.append(now)
                        now = past.pop()
                elif call == ("again",):
                    self.assertEqual(told, [len(ahead) - 1] if ahead else [-2], done)
                    if ahead:
                        past.append(now)
                        now = ahead.pop()
                else:
                    self.assertEqual(told, last(*now, call), done)
                    if shown(*now, call) != shown(*now):
                        past = (past + [now])[-10:]
                        now = now + [call]
                        ahead = []
            self.assertEqual(shown(*done), shown(*now), done)


if __name__ == "__main__":
    unittest.main()
