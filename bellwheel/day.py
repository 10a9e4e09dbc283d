"""A day: deeds done one by one on a wheel, and what they are answered with."""

from bellwheel.wheel import Wheel

NO_BELL = "no bell"
NO_TICKS = "no ticks"


def answers(size, deeds):
    """The answers of a day, a list."""
    wheel = Wheel(size)
    given = []
    for deed in deeds:
        given.append(answer_to(wheel, deed))
    return given


def behind(size, deeds):
    """All slots behind a day, and each bell that waits with the ticks after which it rings."""
    wheel = Wheel(size)
    for deed in deeds:
        answer_to(wheel, deed)
    return (wheel.slots, wheel.ticks_to_go())


def answer_to(wheel, deed):
    """Do one deed on the wheel, and give back its answer."""
    if deed[0] == "set":
        return set_bell(wheel, deed[1])
    if deed[0] == "off":
        return put_off(wheel, deed[1], deed[2])
    if deed[0] == "strike":
        return strike_off(wheel, deed[1])
    return let_go_by(wheel, deed[1])


def set_bell(wheel, after):
    """Set a new bell: its number, or `no ticks`."""
    if after < 1:
        return NO_TICKS
    return wheel.set_next(after)


def put_off(wheel, number, after):
    """Set a waiting bell anew: True, or why it can't be."""
    if not wheel.waits(number):
        return NO_BELL
    if after < 1:
        return NO_TICKS
    # Even within one slot the bell goes to the end: it counts as set when it was put off last.
    wheel.take_off(number)
    wheel.hang(number, after)
    return True


def strike_off(wheel, number):
    """Take a waiting bell off the wheel for good: True, or `no bell`."""
    if not wheel.waits(number):
        return NO_BELL
    wheel.take_off(number)
    return True


def let_go_by(wheel, many):
    """Let so many ticks go by: each tick and bell that rings in it, in the order in which they ring."""
    rung = []
    for step in range(many):
        for number in wheel.go_on():
            rung.append((wheel.now, number))
    return rung
