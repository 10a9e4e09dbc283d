"""Points 1, 4 and 5 of the document, as far as they speak of bellwheel.slots."""

import copy
import inspect
import unittest

from bellwheel.slots import spot_for, ticked

SIZES = (1, 2, 3, 7, 10, 64)
HUGE = 10 ** 30


def counted_spot(size, now, after):
    """The spot found by going tick by tick: the slot looked at last, and how often it was looked at before."""
    seen = [tick % size for tick in range(now + 1, now + after + 1)]
    return (seen[-1], seen[:-1].count(seen[-1]))


def edges_of(size):
    """The values of `after` at which the slot or the turns change over."""
    near = {1, 2, size - 1, size, size + 1}
    for times in (2, 3, 10):
        near |= {times * size - 1, times * size, times * size + 1}
    return sorted(after for after in near if after >= 1)


class SpotForCase(unittest.TestCase):
    def test_arguments_have_their_names(self):
        self.assertEqual(list(inspect.signature(spot_for).parameters), ["size", "now", "after"])
        self.assertEqual(spot_for(size=5, now=3, after=9), (2, 1))

    def test_ordinary(self):
        self.assertEqual(spot_for(8, 0, 3), (3, 0))
        self.assertEqual(spot_for(8, 6, 3), (1, 0))
        self.assertEqual(spot_for(8, 6, 20), (2, 2))
        self.assertEqual(spot_for(12, 9999, 250), (1, 20))

    def test_one_slot_holds_all_bells(self):
        for now in (0, 1, 17, HUGE):
            for after in (1, 2, 3, 100, HUGE):
                self.assertEqual(spot_for(1, now, after), (0, after - 1))

    def test_after_one_is_the_next_slot_without_turns(self):
        self.assertEqual(spot_for(5, 0, 1), (1, 0))
        self.assertEqual(spot_for(5, 3, 1), (4, 0))
        self.assertEqual(spot_for(5, 4, 1), (0, 0))

    def test_around_the_count_of_slots(self):
        self.assertEqual(spot_for(5, 0, 4), (4, 0))
        self.assertEqual(spot_for(5, 0, 5), (0, 0))
        self.assertEqual(spot_for(5, 0, 6), (1, 1))
        self.assertEqual(spot_for(5, 13, 4), (2, 0))
        self.assertEqual(spot_for(5, 13, 5), (3, 0))
        self.assertEqual(spot_for(5, 13, 6), (4, 1))

    def test_around_a_multiple_of_the_count(self):
        self.assertEqual(spot_for(5, 2, 14), (1, 2))
        self.assertEqual(spot_for(5, 2, 15), (2, 2))
        self.assertEqual(spot_for(5, 2, 16), (3, 3))

    def test_now_moves_the_slot_but_not_the_turns(self):
        self.assertEqual([spot_for(4, now, 6) for now in range(5)], [(2, 1), (3, 1), (0, 1), (1, 1), (2, 1)])

    def test_more_slots_than_ticks(self):
        self.assertEqual(spot_for(10 ** 9, 7, 5), (12, 0))

    def test_very_large_now(self):
        self.assertEqual(spot_for(7, 7 * HUGE + 4, 9), (6, 1))
        self.assertEqual(spot_for(1000, HUGE + 998, 2), (0, 0))

    def test_very_large_after(self):
        self.assertEqual(spot_for(1000, 5, HUGE - 1), (4, 10 ** 27 - 1))
        self.assertEqual(spot_for(1000, 5, HUGE), (5, 10 ** 27 - 1))
        self.assertEqual(spot_for(1000, 5, HUGE + 1), (6, 10 ** 27))
        self.assertEqual(spot_for(1000, HUGE + 5, HUGE + 1), (6, 10 ** 27))

    def test_against_a_count_tick_by_tick(self):
        for size in SIZES:
            for now in (0, 1, size - 1, size, size + 1, 9999, 10000, HUGE, HUGE + 1):
                for after in edges_of(size):
                    with self.subTest(size=size, now=now, after=after):
                        self.assertEqual(spot_for(size, now, after), counted_spot(size, now, after))

    def test_every_small_case_against_a_count(self):
        for size in range(1, 9):
            for now in range(20):
                for after in range(1, 40):
                    with self.subTest(size=size, now=now, after=after):
                        self.assertEqual(spot_for(size, now, after), counted_spot(size, now, after))

    def test_answer_is_a_tuple_of_two_whole_numbers(self):
        for size, now, after in ((1, 0, 1), (3, 2, 1), (3, 10, 50), (7, HUGE, HUGE)):
            spot = spot_for(size, now, after)
            self.assertIs(type(spot), tuple)
            self.assertEqual([type(part) for part in spot], [int, int])

    def test_nothing_is_refused_beyond_the_bound_of_after(self):
        # The document gives no answer for these, but says that nothing is refused for them.
        for after in (0, -1, -6):
            spot = spot_for(5, 3, after)
            self.assertEqual([type(part) for part in spot], [int, int])


class TickedCase(unittest.TestCase):
    def test_argument_has_its_name(self):
        self.assertEqual(list(inspect.signature(ticked).parameters), ["slot"])
        self.assertEqual(ticked(slot=[(3, 0)]), ([3], []))

    def test_empty_slot(self):
        self.assertEqual(ticked([]), ([], []))

    def test_bells_without_turns_ring(self):
        self.assertEqual(ticked([(0, 0)]), ([0], []))
        self.assertEqual(ticked([(1, 0), (4, 0), (9, 0)]), ([1, 4, 9], []))

    def test_bells_with_turns_have_one_less(self):
        self.assertEqual(ticked([(0, 1)]), ([], [(0, 0)]))
        self.assertEqual(ticked([(2, 1), (5, 2), (6, 40)]), ([], [(2, 0), (5, 1), (6, 39)]))

    def test_both_mixed(self):
        slot = [(0, 3), (1, 0), (2, 1), (3, 0), (4, 0), (5, 2)]
        self.assertEqual(ticked(slot), ([1, 3, 4], [(0, 2), (2, 0), (5, 1)]))

    def test_falling_numbers_keep_their_order(self):
        slot = [(9, 0), (8, 2), (7, 0), (5, 1), (2, 0), (0, 7)]
        self.assertEqual(ticked(slot), ([9, 7, 2], [(8, 1), (5, 0), (0, 6)]))

    def test_numbers_up_and_down_keep_their_order(self):
        slot = [(4, 0), (1, 2), (11, 0), (3, 2), (0, 1), (2, 0), (7, 9)]
        self.assertEqual(ticked(slot), ([4, 11, 2], [(1, 1), (3, 1), (0, 0), (7, 8)]))

    def test_very_large_turns_and_numbers(self):
        self.assertEqual(ticked([(HUGE, 0), (HUGE + 1, HUGE)]), ([HUGE], [(HUGE + 1, HUGE - 1)]))

    def test_long_slots(self):
        for length in (500, 501, 2000):
            slot = [(length - place, place % 3) for place in range(length)]
            ringing, waiting = ticked(slot)
            self.assertEqual(ringing, [length - place for place in range(0, length, 3)])
            self.assertEqual(waiting, [(length - place, place % 3 - 1) for place in range(length) if place % 3])

    def test_slot_handed_in_stays_as_it_was(self):
        for slot in ([], [(1, 0)], [(1, 4)], [(9, 0), (8, 2), (7, 0), (5, 1)]):
            before = copy.deepcopy(slot)
            first = ticked(slot)
            self.assertEqual(slot, before)
            self.assertEqual(ticked(slot), first)

    def test_answer_is_a_tuple_of_two_lists(self):
        for slot in ([], [(1, 0)], [(1, 4)], [(9, 0), (8, 2), (7, 0), (5, 1)]):
            answer = ticked(slot)
            self.assertIs(type(answer), tuple)
            self.assertEqual([type(part) for part in answer], [list, list])
            for number in answer[0]:
                self.assertIs(type(number), int)
            for pair in answer[1]:
                self.assertIs(type(pair), tuple)
                self.assertEqual([type(part) for part in pair], [int, int])


class WheelCase(unittest.TestCase):
    """Both together: a bell set by its spot rings in the tick it was set for, whatever the count of slots."""

    def ringing_ticks(self, size, now, afters):
        wheel = [[] for place in range(size)]
        for number, after in enumerate(afters):
            place, turns = spot_for(size, now, after)
            wheel[place].append((number, turns))
        rung = []
        for tick in range(now + 1, now + max(afters) + 1):
            numbers, wheel[tick % size] = ticked(wheel[tick % size])
            rung.extend((tick, number) for number in numbers)
        self.assertEqual(wheel, [[] for place in range(size)])
        return rung

    def test_count_of_slots_makes_no_difference(self):
        afters = [6, 1, 12, 5, 6, 30, 7, 1, 13, 6]
        for now in (0, 4, 9999, HUGE):
            expected = sorted((now + after, number) for number, after in enumerate(afters))
            for size in (1, 2, 3, 5, 6, 7, 12, 50):
                with self.subTest(size=size, now=now):
                    self.assertEqual(self.ringing_ticks(size, now, afters), expected)


if __name__ == "__main__":
    unittest.main()
