"""The wheel: notes are put on it and taken off in the order in which they came."""

from orderwheel.clips import place, relaid
from orderwheel.errors import NoNote
from orderwheel.sizes import LEAST, narrower, wider


class Wheel:
    def __init__(self):
        self.clips = [None] * LEAST
        self.first = 0
        self.held = 0
        self.moves = 0

    def put(self, note):
        # The change comes first: the clip is counted on the wheel that the note comes to.
        if self.held == len(self.clips):
            self.change(wider(len(self.clips)))
        clip = place(len(self.clips), self.first, self.held)
        self.clips[clip] = note
        self.held += 1
        return clip

    def take_off(self):
        # The number of notes is asked, not the note: the empty text is a note too.
        if self.held == 0:
            raise NoNote("no note is on the wheel")
        note = self.clips[self.first]
        self.clips[self.first] = None
        self.first = place(len(self.clips), self.first, 1)
        self.held -= 1
        size = narrower(len(self.clips), self.held)
        # A wheel that keeps its size is not changed: its notes don't move.
        if size != len(self.clips):
            self.change(size)
        return note

    def change(self, size):
        self.clips = relaid(self.clips, self.first, self.held, size)
        self.first = 0
        self.moves += self.held
