"""A day: deeds done one after the other on the wheel that the kitchen begins with."""

from orderwheel.errors import NoNote
from orderwheel.wheel import Wheel


def answers(deeds):
    wheel = Wheel()
    return [do_deed(wheel, deed) for deed in deeds]


def states(deeds):
    wheel = Wheel()
    told = []
    for deed in deeds:
        do_deed(wheel, deed)
        told.append(state(wheel))
    return told


def behind(deeds):
    wheel = Wheel()
    for deed in deeds:
        do_deed(wheel, deed)
    return (wheel.clips, wheel.first)


def do_deed(wheel, deed):
    if deed[0] == "put":
        return wheel.put(deed[1])
    # A refusal is an answer here; the wheel has refused before it changed anything.
    try:
        return wheel.take_off()
    except NoNote:
        return None


def state(wheel):
    return (len(wheel.clips), wheel.first, wheel.held, wheel.moves)
