"""The slots of the wheel: where a bell comes to hang, and what a tick does to one slot."""


def spot_for(size, now, after):
    """The slot and the turns of a bell set behind the tick `now` to ring after `after` ticks."""
    slot = (now + after) % size
    # The last of these ticks is the one that rings the bell, so it is no turn to wait for.
    turns = (after - 1) // size
    return (slot, turns)


def ticked(slot):
    """The numbers that ring when a tick looks at the slot, and the slot behind that tick."""
    ringing = [number for number, turns in slot if turns == 0]
    waiting = [(number, turns - 1) for number, turns in slot if turns != 0]
    return (ringing, waiting)
