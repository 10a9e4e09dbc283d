"""The wheel: its slots, the ticks gone by, and the bells that wait on it."""

from bellwheel.slots import spot_for, ticked


class Wheel:
    """A wheel of empty slots ahead of the first tick."""

    def __init__(self, size):
        self.size = size
        self.slots = [[] for place in range(size)]
        self.now = 0
        # The tick in which each waiting bell rings: it tells the bell's slot without a look at every slot.
        self.due = {}
        self.bells_set = 0

    def waits(self, number):
        """Whether a bell of this number waits."""
        return number in self.due

    def set_next(self, after):
        """Set a bell under the next number, and give that number back."""
        number = self.bells_set
        self.bells_set = number + 1
        self.hang(number, after)
        return number

    def hang(self, number, after):
        """Hang a bell that is on no slot so that it rings after so many ticks."""
        spot = spot_for(self.size, self.now, after)
        self.slots[spot[0]].append((number, spot[1]))
        self.due[number] = self.now + after

    def take_off(self, number):
        """Take a waiting bell off its slot."""
        place = self.due[number] % self.size
        self.slots[place] = [pair for pair in self.slots[place] if pair[0] != number]
        self.due.pop(number)

    def go_on(self):
        """Let one tick go by, and give back the numbers that ring in it."""
        self.now = self.now + 1
        place = self.now % self.size
        look = ticked(self.slots[place])
        self.slots[place] = look[1]
        for number in look[0]:
            self.due.pop(number)
        return look[0]

    def ticks_to_go(self):
        """Each waiting bell and after how many ticks it rings, the numbers rising."""
        return [(number, self.due[number] - self.now) for number in sorted(self.due)]
