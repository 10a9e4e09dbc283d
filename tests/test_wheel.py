"""Points 1, 4 and 5 of the document on the wheel itself: a tick looks at one slot alone."""

import unittest

from bellwheel.wheel import Wheel


class WatchedSlots(list):
    """A list of slots that notes which of them are looked at or changed."""

    def __init__(self, slots):
        super().__init__(slots)
        self.seen = set()

    def __getitem__(self, place):
        self.seen.add(place)
        return super().__getitem__(place)

    def __setitem__(self, place, slot):
        self.seen.add(place)
        super().__setitem__(place, slot)

    def __iter__(self):
        self.seen.add("all")
        return super().__iter__()


class WheelCase(unittest.TestCase):
    def test_begins_empty_ahead_of_the_first_tick(self):
        wheel = Wheel(3)
        self.assertEqual((wheel.slots, wheel.now, wheel.ticks_to_go()), ([[], [], []], 0, []))

    def test_slots_are_not_one_and_the_same(self):
        wheel = Wheel(3)
        self.assertEqual(wheel.set_next(2), 0)
        self.assertEqual(wheel.slots, [[], [], [(0, 0)]])

    def test_a_tick_looks_at_one_slot_alone(self):
        for size in (1, 2, 5, 12):
            wheel = Wheel(size)
            for after in range(1, 30):
                wheel.set_next(after)
            for tick in range(1, 40):
                wheel.slots = WatchedSlots(wheel.slots)
                wheel.go_on()
                self.assertEqual(wheel.slots.seen, {tick % size})

    def test_waits_until_it_rings_or_is_taken_off(self):
        wheel = Wheel(2)
        wheel.set_next(1)
        wheel.set_next(5)
        self.assertEqual([wheel.waits(number) for number in (-1, 0, 1, 2)], [False, True, True, False])
        self.assertEqual(wheel.go_on(), [0])
        self.assertEqual([wheel.waits(number) for number in (0, 1)], [False, True])
        wheel.take_off(1)
        self.assertFalse(wheel.waits(1))
        self.assertEqual(wheel.slots, [[], []])

    def test_hang_sets_a_bell_anew_from_now_on(self):
        wheel = Wheel(4)
        wheel.set_next(6)
        wheel.go_on()
        wheel.take_off(0)
        wheel.hang(0, 6)
        self.assertEqual((wheel.slots, wheel.ticks_to_go()), ([[], [], [], [(0, 1)]], [(0, 6)]))
        self.assertEqual(wheel.set_next(1), 1)


if __name__ == "__main__":
    unittest.main()
