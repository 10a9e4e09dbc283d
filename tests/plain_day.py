"""A day held as a plain list of bells and ticks, without any wheel: what the program is held against."""


class PlainDay:
    """The waiting bells as pairs (number, tick in which it rings), in the order in which they were set."""

    def __init__(self):
        self.bells = []
        self.now = 0
        self.numbers_given = 0

    def answer(self, deed):
        return getattr(self, "do_" + deed[0])(*deed[1:])

    def waits(self, number):
        return number in [bell for bell, due in self.bells]

    def drop(self, number):
        self.bells = [(bell, due) for bell, due in self.bells if bell != number]

    def do_set(self, after):
        if after < 1:
            return "no ticks"
        self.bells.append((self.numbers_given, self.now + after))
        self.numbers_given += 1
        return self.numbers_given - 1

    def do_off(self, number, after):
        if not self.waits(number):
            return "no bell"
        if after < 1:
            return "no ticks"
        self.drop(number)
        self.bells.append((number, self.now + after))
        return True

    def do_strike(self, number):
        if not self.waits(number):
            return "no bell"
        self.drop(number)
        return True

    def do_tick(self, many):
        rung = []
        for _ in range(many):
            self.now += 1
            rung += [(self.now, number) for number, due in self.bells if due == self.now]
            self.bells = [(number, due) for number, due in self.bells if due != self.now]
        return rung

    def looks_before(self, size, due):
        """How often the bell's slot is looked at before the tick in which the bell rings."""
        if due - self.now > 100000:
            return (due - self.now - 1) // size
        return sum(1 for tick in range(self.now + 1, due) if tick % size == due % size)

    def slots(self, size):
        slots = [[] for _ in range(size)]
        for number, due in self.bells:
            slots[due % size].append((number, self.looks_before(size, due)))
        return slots

    def ticks_to_go(self):
        return sorted((number, due - self.now) for number, due in self.bells)


def plain_answers(deeds):
    day = PlainDay()
    return [day.answer(deed) for deed in deeds]


def plain_behind(size, deeds):
    day = PlainDay()
    for deed in deeds:
        day.answer(deed)
    return (day.slots(size), day.ticks_to_go())


class Chooser:
    """Numbers that look drawn by lot, but are the same in every run and under every Python."""

    def __init__(self, seed):
        self.state = seed

    def below(self, bound):
        self.state = (self.state * 6364136223846793005 + 1442695040888963407) % 2 ** 64
        return (self.state >> 33) % bound


def mixed_day(seed, length, reach):
    """A day of all four deeds, refused ones among them, with `after` of at most `reach`."""
    chooser = Chooser(seed)
    deeds = []
    sets = 0
    for _ in range(length):
        lot = chooser.below(10)
        number = chooser.below(sets + 2) - 1
        after = chooser.below(reach + 3) - 2
        if lot < 4:
            deeds.append(("set", after))
            sets += 1
        elif lot < 6:
            deeds.append(("off", number, after))
        elif lot < 7:
            deeds.append(("strike", number))
        else:
            deeds.append(("tick", chooser.below(reach // 2 + 2)))
    return deeds
