"""The clips of a wheel: going round them, and moving their notes to a new wheel."""


def place(size, first, count):
    return (first + count) % size


def relaid(clips, first, held, size):
    notes = [clips[place(len(clips), first, count)] for count in range(held)]
    return notes + [None] * (size - held)
