"""Points 1 to 6 of the document, as far as they speak of bellwheel.day."""

import copy
import inspect
import unittest

from bellwheel.day import answers, behind
from plain_day import mixed_day, plain_answers, plain_behind

SIZES = (1, 2, 3, 5, 7, 12, 64, 365, 500)
HUGE = 10 ** 30


class DayCase(unittest.TestCase):
    def check_answers(self, deeds, expected):
        """The answers are these on every wheel; they and what is behind the day are as on the plain list of bells."""
        self.assertEqual(plain_answers(deeds), expected)
        self.check_against_plain(deeds, SIZES)

    def check_against_plain(self, deeds, sizes):
        expected = plain_answers(deeds)
        for size in sizes:
            with self.subTest(size=size):
                self.assertEqual(answers(size, deeds), expected)
                self.assertEqual(behind(size, deeds), plain_behind(size, deeds))


class InterfaceCase(unittest.TestCase):
    def test_arguments_have_their_names(self):
        for function in (answers, behind):
            self.assertEqual(list(inspect.signature(function).parameters), ["size", "deeds"])
        self.assertEqual(answers(size=2, deeds=[("set", 1)]), [0])
        self.assertEqual(behind(size=2, deeds=[("set", 1)]), ([[], [(0, 0)]], [(0, 1)]))

    def test_kinds_of_answers(self):
        deeds = [
            ("set", 2), ("off", 0, 3), ("strike", 0), ("tick", 4), ("set", 1), ("tick", 2),
            ("strike", 0), ("off", 0, 1), ("set", 0), ("set", 3), ("off", 2, 0),
        ]
        for size in SIZES:
            given = answers(size, deeds)
            self.assertIs(type(given), list)
            kinds = [int, bool, bool, list, int, list, str, str, str, int, str]
            self.assertEqual([type(answer) for answer in given], kinds)
            self.assertIs(given[1], True)
            self.assertIs(given[2], True)
            for pair in given[5]:
                self.assertIs(type(pair), tuple)
                self.assertEqual([type(part) for part in pair], [int, int])
            self.assertEqual(given, [0, True, True, [], 1, [(5, 1)], "no bell", "no bell", "no ticks", 2, "no ticks"])

    def test_kinds_of_what_is_behind_a_day(self):
        for size in SIZES:
            pair = behind(size, [("set", 2), ("set", 9), ("tick", 1), ("off", 0, 30)])
            self.assertIs(type(pair), tuple)
            self.assertEqual([type(part) for part in pair], [list, list])
            slots, waiting = pair
            self.assertEqual(len(slots), size)
            self.assertEqual([type(slot) for slot in slots], [list] * size)
            bells = [bell for slot in slots for bell in slot] + waiting
            self.assertEqual(len(bells), 4)
            for bell in bells:
                self.assertIs(type(bell), tuple)
                self.assertEqual([type(part) for part in bell], [int, int])


class RingingCase(DayCase):
    """Point 2: the numbers, and in which tick a bell rings."""

    def test_no_deeds_at_all(self):
        self.check_answers([], [])

    def test_ticks_alone(self):
        self.check_answers([("tick", 1)], [[]])
        self.check_answers([("tick", 0)], [[]])
        self.check_answers([("tick", 3), ("tick", 0), ("tick", 20)], [[], [], []])
        self.check_answers([("tick", 10000)], [[]])

    def test_numbers_from_nought_in_the_order_of_setting(self):
        self.check_answers([("set", 9), ("set", 4), ("set", 4), ("set", 1)], [0, 1, 2, 3])

    def test_number_of_a_bell_gone_is_not_given_again(self):
        deeds = [("set", 1), ("tick", 1), ("set", 5), ("strike", 1), ("set", 2), ("off", 2, 3), ("set", 1)]
        self.check_answers(deeds, [0, [(1, 0)], 1, True, 2, True, 3])

    def test_rings_in_the_nth_tick(self):
        for after in (1, 2, 4, 5, 6, 7, 8, 11, 12, 13, 64, 65, 128, 500, 501, 1000):
            self.check_answers(
                [("set", after), ("tick", after - 1), ("tick", 1), ("tick", 1500)], [0, [], [(after, 0)], []]
            )

    def test_rings_in_the_nth_tick_from_then_on(self):
        for gone in (1, 4, 5, 6, 63, 64, 1000):
            self.check_answers(
                [("tick", gone), ("set", 7), ("tick", 6), ("tick", 1), ("tick", 800)],
                [[], 0, [], [(gone + 7, 0)], []],
            )

    def test_first_tick_and_last_of_a_deed_and_first_of_the_next(self):
        deeds = [("set", 1), ("set", 10), ("set", 11), ("tick", 10), ("tick", 10)]
        self.check_answers(deeds, [0, 1, 2, [(1, 0), (10, 1)], [(11, 2)]])

    def test_first_and_last_tick_of_a_day(self):
        deeds = [("set", 10000), ("set", 1), ("set", 10001), ("tick", 10000)]
        self.check_answers(deeds, [0, 1, 2, [(1, 1), (10000, 0)]])

    def test_bell_that_rang_does_not_wait(self):
        deeds = [("set", 2), ("tick", 2), ("strike", 0), ("off", 0, 3), ("tick", 1000)]
        self.check_answers(deeds, [0, [(2, 0)], "no bell", "no bell", []])

    def test_nought_ticks_ring_nothing(self):
        self.check_answers([("set", 1), ("tick", 0), ("tick", 1)], [0, [], [(1, 0)]])

    def test_very_large_after(self):
        deeds = [("set", HUGE), ("set", 3), ("tick", 5000), ("off", 0, HUGE + 7), ("tick", 10)]
        deeds += [("off", 0, 4), ("tick", 9)]
        self.check_answers(deeds, [0, 1, [(3, 1)], True, [], True, [(5014, 0)]])


class PutOffCase(DayCase):
    """Points 2 and 3: set anew from that time on, under the same number, at the end of the order."""

    def test_to_a_later_tick(self):
        deeds = [("set", 4), ("tick", 3), ("off", 0, 4), ("tick", 3), ("tick", 1)]
        self.check_answers(deeds, [0, [], True, [], [(7, 0)]])

    def test_to_an_earlier_tick(self):
        deeds = [("set", 40), ("tick", 3), ("off", 0, 2), ("tick", 1), ("tick", 1), ("tick", 1000)]
        self.check_answers(deeds, [0, [], True, [], [(5, 0)], []])

    def test_to_the_next_tick(self):
        self.check_answers([("set", 40), ("off", 0, 1), ("tick", 100)], [0, True, [(1, 0)]])

    def test_twice(self):
        deeds = [("set", 4), ("off", 0, 9), ("tick", 2), ("off", 0, 3), ("tick", 100)]
        self.check_answers(deeds, [0, True, [], True, [(5, 0)]])
        deeds = [("set", 4), ("tick", 3), ("off", 0, 3), ("off", 0, 6), ("tick", 5), ("tick", 1), ("tick", 9)]
        self.check_answers(deeds, [0, [], True, True, [], [(9, 0)], []])

    def test_to_the_same_tick_rings_once_and_behind_the_others(self):
        deeds = [("set", 5), ("set", 5), ("set", 5), ("off", 0, 5), ("tick", 30)]
        self.check_answers(deeds, [0, 1, 2, True, [(5, 1), (5, 2), (5, 0)]])

    def test_to_the_same_tick_later_on(self):
        deeds = [("set", 5), ("set", 5), ("tick", 2), ("off", 0, 3), ("set", 3), ("tick", 3)]
        self.check_answers(deeds, [0, 1, [], True, 2, [(5, 1), (5, 0), (5, 2)]])

    def test_into_its_own_slot_by_whole_turns(self):
        for size in SIZES:
            for turns in (1, 2, 5):
                far = 3 + turns * size
                deeds = [("set", 3), ("set", 3), ("off", 0, far), ("set", far), ("tick", far)]
                expected = [0, 1, True, 2, [(3, 1), (far, 0), (far, 2)]]
                with self.subTest(size=size, turns=turns):
                    self.assertEqual(answers(size, deeds), expected)
                    self.assertEqual(plain_answers(deeds), expected)

    def test_back_by_whole_turns(self):
        for size in SIZES:
            deeds = [("set", 3 + 4 * size), ("set", 3), ("off", 0, 3), ("tick", 3), ("tick", 5 * size)]
            with self.subTest(size=size):
                self.assertEqual(answers(size, deeds), [0, 1, True, [(3, 1), (3, 0)], []])

    def test_behind_having_rung_and_behind_being_struck(self):
        deeds = [("set", 1), ("set", 9), ("tick", 1), ("off", 0, 2), ("strike", 1), ("off", 1, 2), ("tick", 50)]
        self.check_answers(deeds, [0, 1, [(1, 0)], "no bell", True, "no bell", []])

    def test_put_off_again_and_again(self):
        deeds = [("set", 2)]
        for _ in range(100):
            deeds += [("tick", 1), ("off", 0, 2)]
        deeds += [("tick", 1), ("tick", 1), ("tick", 1)]
        self.check_answers(deeds, [0] + [[], True] * 100 + [[], [(102, 0)], []])


class OrderCase(DayCase):
    """Point 3: the order of bells in one tick."""

    def test_in_the_order_of_setting(self):
        deeds = [("set", 6), ("tick", 1), ("set", 5), ("tick", 3), ("set", 2), ("set", 2), ("tick", 2)]
        self.check_answers(deeds, [0, [], 1, [], 2, 3, [(6, 0), (6, 1), (6, 2), (6, 3)]])

    def test_put_off_in_another_order(self):
        deeds = [("set", 6), ("set", 8), ("set", 7), ("set", 6)]
        deeds += [("off", 2, 9), ("off", 0, 9), ("off", 3, 9), ("off", 1, 9)]
        self.check_answers(deeds + [("tick", 9)], [0, 1, 2, 3] + [True] * 4 + [[(9, 2), (9, 0), (9, 3), (9, 1)]])

    def test_the_last_putting_off_counts(self):
        deeds = [("set", 6), ("set", 6), ("off", 0, 6), ("off", 1, 6), ("off", 0, 6), ("off", 0, 6), ("tick", 6)]
        self.check_answers(deeds, [0, 1, True, True, True, True, [(6, 1), (6, 0)]])

    def test_refused_putting_off_does_not_count(self):
        deeds = [("set", 6), ("set", 6), ("off", 0, 0), ("off", 0, -6), ("tick", 6)]
        self.check_answers(deeds, [0, 1, "no ticks", "no ticks", [(6, 0), (6, 1)]])

    def test_struck_bell_leaves_the_others_in_order(self):
        deeds = [("set", 6), ("set", 6), ("set", 6), ("off", 0, 6), ("strike", 2), ("set", 6), ("tick", 6)]
        self.check_answers(deeds, [0, 1, 2, True, True, 3, [(6, 1), (6, 0), (6, 3)]])

    def test_ticks_first_and_the_order_within_each(self):
        deeds = [("set", 3), ("set", 2), ("set", 3), ("set", 1), ("set", 2), ("off", 1, 2), ("tick", 3)]
        self.check_answers(deeds, [0, 1, 2, 3, 4, True, [(1, 3), (2, 4), (2, 1), (3, 0), (3, 2)]])


class StrikeCase(DayCase):
    def test_struck_bell_does_not_ring(self):
        deeds = [("set", 3), ("set", 3), ("tick", 2), ("strike", 0), ("tick", 1000)]
        self.check_answers(deeds, [0, 1, [], True, [(3, 1)]])

    def test_struck_twice(self):
        self.check_answers([("set", 3), ("strike", 0), ("strike", 0)], [0, True, "no bell"])

    def test_struck_behind_being_put_off(self):
        deeds = [("set", 3), ("off", 0, 600), ("strike", 0), ("tick", 1000)]
        self.check_answers(deeds, [0, True, True, []])

    def test_struck_behind_some_turns(self):
        deeds = [("set", 900), ("set", 900), ("tick", 899), ("strike", 1), ("tick", 2)]
        self.check_answers(deeds, [0, 1, [], True, [(900, 0)]])


class RefusalCase(DayCase):
    """Point 6: `no bell`, else `no ticks`, and nothing is changed."""

    def test_numbers_not_given_and_below_nought(self):
        for number in (-HUGE, -3, -2, -1, 2, 3, 700, HUGE):
            deeds = [("set", 3), ("set", 4), ("off", number, 2), ("strike", number), ("tick", 5)]
            self.check_answers(deeds, [0, 1, "no bell", "no bell", [(3, 0), (4, 1)]])

    def test_no_bell_on_an_empty_wheel(self):
        self.check_answers([("off", 0, 1), ("strike", 0), ("strike", -1)], ["no bell"] * 3)

    def test_no_ticks_for_a_set(self):
        for after in (0, -1, -5, -HUGE):
            self.check_answers([("set", after), ("tick", 20)], ["no ticks", []])

    def test_no_ticks_for_a_putting_off(self):
        for after in (0, -1, -5, -HUGE):
            self.check_answers([("set", 7), ("off", 0, after), ("tick", 7)], [0, "no ticks", [(7, 0)]])

    def test_no_bell_comes_first(self):
        for after in (0, -1, -5, -HUGE):
            deeds = [("off", 0, after), ("set", 1), ("set", 9), ("tick", 1), ("strike", 1)]
            deeds += [("off", 0, after), ("off", 1, after), ("off", 2, after), ("off", -1, after)]
            self.check_answers(deeds, ["no bell", 0, 1, [(1, 0)], True] + ["no bell"] * 4)

    def test_refused_set_takes_no_number(self):
        deeds = [("set", 0), ("set", 4), ("set", -2), ("set", 0), ("set", 4), ("tick", 4), ("set", 0), ("set", 1)]
        expected = ["no ticks", 0, "no ticks", "no ticks", 1, [(4, 0), (4, 1)], "no ticks", 2]
        self.check_answers(deeds, expected)

    def test_least_after_is_one(self):
        self.check_answers([("set", 1), ("off", 0, 1), ("tick", 1)], [0, True, [(1, 0)]])

    def test_refused_deeds_change_nothing(self):
        day = [("set", 8), ("set", 3), ("set", 8), ("set", 1), ("tick", 2), ("off", 0, 6), ("strike", 1)]
        refused = [("set", 0), ("set", -4), ("off", 0, 0), ("off", 2, -9), ("off", 1, 5), ("off", 3, 5), ("off", 9, 5)]
        refused += [("off", -1, 5), ("off", -1, 0), ("strike", 1), ("strike", 3), ("strike", 4), ("strike", -1)]
        for size in SIZES:
            for deed in refused:
                with self.subTest(size=size, deed=deed):
                    self.assertEqual(behind(size, day + [deed]), behind(size, day))
            self.assertEqual(behind(size, day + refused), behind(size, day))


class BehindCase(DayCase):
    """Points 4 and 5: the slots and the waiting bells behind a day."""

    def test_no_deeds_at_all(self):
        for size in SIZES:
            self.assertEqual(behind(size, []), ([[]] * size, []))

    def test_ticks_alone(self):
        for size in SIZES:
            for many in (0, 1, 10000):
                self.assertEqual(behind(size, [("tick", many)]), ([[]] * size, []))

    def test_slots_from_nought_on(self):
        deeds = [("set", 1), ("set", 2), ("set", 3), ("set", 4), ("set", 5), ("set", 9)]
        slots = [[(3, 0)], [(0, 0), (4, 1), (5, 2)], [(1, 0)], [(2, 0)]]
        self.assertEqual(behind(4, deeds), (slots, [(0, 1), (1, 2), (2, 3), (3, 4), (4, 5), (5, 9)]))

    def test_first_tick_looks_at_slot_one(self):
        deeds = [("set", 3), ("set", 6), ("set", 4), ("set", 7), ("set", 5), ("set", 8)]
        self.assertEqual(behind(3, deeds)[0], [[(0, 0), (1, 1)], [(2, 1), (3, 2)], [(4, 1), (5, 2)]])
        self.assertEqual(behind(3, deeds + [("tick", 1)])[0], [[(0, 0), (1, 1)], [(2, 0), (3, 1)], [(4, 1), (5, 2)]])
        self.assertEqual(behind(3, deeds + [("tick", 2)])[0], [[(0, 0), (1, 1)], [(2, 0), (3, 1)], [(4, 0), (5, 1)]])
        self.assertEqual(behind(3, deeds + [("tick", 3)])[0], [[(1, 0)], [(2, 0), (3, 1)], [(4, 0), (5, 1)]])
        self.assertEqual(behind(3, deeds + [("tick", 4)])[0], [[(1, 0)], [(3, 0)], [(4, 0), (5, 1)]])

    def test_set_behind_some_ticks(self):
        deeds = [("tick", 13), ("set", 4), ("set", 5), ("set", 6)]
        self.assertEqual(behind(5, deeds), ([[], [], [(0, 0)], [(1, 0)], [(2, 1)]], [(0, 4), (1, 5), (2, 6)]))

    def test_one_slot_holds_all_bells_in_their_order(self):
        deeds = [("set", 5), ("set", 2), ("set", 9), ("off", 0, 7), ("tick", 1)]
        self.assertEqual(behind(1, deeds), ([[(1, 0), (2, 7), (0, 5)]], [(0, 6), (1, 1), (2, 8)]))

    def test_put_off_bell_goes_to_the_end_of_its_own_slot(self):
        deeds = [("set", 2), ("set", 7), ("set", 2)]
        self.assertEqual(behind(5, deeds)[0], [[], [], [(0, 0), (1, 1), (2, 0)], [], []])
        self.assertEqual(behind(5, deeds + [("off", 0, 2)])[0], [[], [], [(1, 1), (2, 0), (0, 0)], [], []])
        self.assertEqual(behind(5, deeds + [("off", 0, 12)])[0], [[], [], [(1, 1), (2, 0), (0, 2)], [], []])
        self.assertEqual(behind(5, deeds + [("off", 1, 7)])[0], [[], [], [(0, 0), (2, 0), (1, 1)], [], []])
        self.assertEqual(behind(5, deeds + [("off", 2, 2)])[0], behind(5, deeds)[0])

    def test_put_off_bell_leaves_its_slot(self):
        deeds = [("set", 2), ("set", 7), ("tick", 1), ("off", 1, 3), ("off", 0, 8)]
        self.assertEqual(behind(5, deeds), ([[], [], [], [], [(1, 0), (0, 1)]], [(0, 8), (1, 3)]))

    def test_struck_bell_leaves_its_slot(self):
        deeds = [("set", 2), ("set", 7), ("set", 12), ("tick", 3), ("strike", 1)]
        self.assertEqual(behind(5, deeds), ([[], [], [(2, 1)], [], []], [(2, 9)]))

    def test_waiting_numbers_rise(self):
        deeds = [("set", 90), ("set", 5), ("set", 40), ("set", 1), ("off", 1, 70), ("off", 0, 2), ("tick", 1)]
        for size in SIZES:
            self.assertEqual(behind(size, deeds)[1], [(0, 1), (1, 69), (2, 39)])

    def test_ticks_to_go_and_the_tick_that_rings_agree(self):
        deeds = [("set", 17), ("tick", 3), ("set", 1), ("set", 30), ("off", 0, 600), ("tick", 0)]
        for size in SIZES:
            for number, ticks in behind(size, deeds)[1]:
                self.assertEqual(
                    [pair for pair in answers(size, deeds + [("tick", 1000)])[-1] if pair[1] == number],
                    [(3 + ticks, number)],
                )

    def test_bell_that_rang_is_gone(self):
        for size in SIZES:
            self.assertEqual(behind(size, [("set", 4), ("set", 2), ("tick", 4)]), ([[]] * size, []))

    def test_very_large_after(self):
        slots, waiting = behind(1000, [("tick", 5), ("set", HUGE), ("set", HUGE + 1), ("tick", 1)])
        self.assertEqual(slots[5:7], [[(0, 10 ** 27 - 1)], [(1, 10 ** 27 - 1)]])
        self.assertEqual(waiting, [(0, HUGE - 1), (1, HUGE)])

    def test_a_tick_changes_its_own_slot_alone(self):
        deeds = [("set", after) for after in range(1, 40)]
        for size in (1, 2, 3, 7, 12):
            before = behind(size, deeds)[0]
            for tick in range(1, 30):
                after = behind(size, deeds + [("tick", tick)])[0]
                changed = [place for place in range(size) if before[place] != after[place]]
                self.assertEqual(changed, [tick % size])
                before = after


class WholeDayCase(DayCase):
    """Point 1, and all points together on long and mixed days."""

    def test_mixed_days_against_a_plain_list(self):
        for seed in range(60):
            with self.subTest(seed=seed):
                self.check_against_plain(mixed_day(seed, 60, 3 + seed % 25), (1, 2, 3, 5, 8, 13, 300))

    def test_every_step_of_mixed_days(self):
        for seed in range(100, 106):
            deeds = mixed_day(seed, 60, 14)
            for length in range(len(deeds) + 1):
                with self.subTest(seed=seed, length=length):
                    self.check_against_plain(deeds[:length], (1, 4, 7))

    def test_mixed_days_hold_every_answer(self):
        given = [answer for seed in range(60) for answer in plain_answers(mixed_day(seed, 60, 3 + seed % 25))]
        for answer in ("no bell", "no ticks", True, []):
            self.assertTrue([other for other in given if type(other) is type(answer) and other == answer])
        self.assertTrue([answer for answer in given if type(answer) is list and len(answer) > 3])

    def test_long_days_against_a_plain_list(self):
        for seed in (1, 2, 3):
            self.check_against_plain(mixed_day(seed, 500, 60), (1, 3, 60, 400))

    def test_count_of_slots_makes_no_difference(self):
        for seed in range(200, 220):
            deeds = mixed_day(seed, 120, 40)
            given = answers(1, deeds)
            waiting = behind(1, deeds)[1]
            for size in (2, 3, 4, 9, 40, 41, 100, 365, 999):
                with self.subTest(seed=seed, size=size):
                    self.assertEqual(answers(size, deeds), given)
                    self.assertEqual(behind(size, deeds)[1], waiting)

    def test_nothing_is_refused_somewhat_beyond_the_bounds(self):
        deeds = [("set", 10400 + number) for number in range(600)] + [("tick", 10450), ("tick", 1000)]
        first = [(10400 + number, number) for number in range(51)]
        rest = [(10400 + number, number) for number in range(51, 600)]
        for size in (1, 7, 500, 12000):
            self.assertEqual(answers(size, deeds), list(range(600)) + [first, rest])
            self.assertEqual(behind(size, deeds), ([[]] * size, []))

    def test_deeds_are_the_same_afterwards(self):
        for deeds in ([], [("tick", 0)], mixed_day(7, 80, 12), [("set", 0), ("off", 4, 0), ("strike", -1)]):
            before = copy.deepcopy(deeds)
            parts = list(deeds)
            for size in SIZES:
                answers(size, deeds)
                behind(size, deeds)
                self.assertEqual(deeds, before)
                self.assertTrue(all(deed is part for deed, part in zip(deeds, parts, strict=True)))

    def test_two_days_have_nothing_to_do_with_one_another(self):
        day = mixed_day(11, 80, 12)
        other = mixed_day(12, 80, 12)
        for size in SIZES:
            first = (answers(size, day), behind(size, day))
            kept = copy.deepcopy(first)
            answers(size, other)
            behind(size, other)
            self.assertEqual((answers(size, day), behind(size, day)), kept)
            self.assertEqual(first, kept)
            self.assertEqual(answers(size, [("set", 1), ("strike", 1), ("tick", 1)]), [0, "no bell", [(1, 0)]])

    def test_what_is_given_back_is_not_kept(self):
        deeds = [("set", 4), ("tick", 0), ("tick", 0), ("set", 9), ("tick", 1)]
        for size in SIZES:
            given = answers(size, deeds)
            given[1].append("mark")
            self.assertEqual(given, [0, ["mark"], [], 1, []])
            slots, waiting = behind(size, deeds)
            kept = copy.deepcopy((slots, waiting))
            slots[0].append("mark")
            waiting.append("mark")
            self.assertEqual([slot for slot in slots if "mark" in slot], [slots[0]])
            self.assertEqual(behind(size, deeds), kept)
            self.assertEqual(answers(size, deeds), [0, [], [], 1, []])


if __name__ == "__main__":
    unittest.main()
