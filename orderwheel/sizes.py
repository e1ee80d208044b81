"""How many clips the wheels have: 3, 7, 15, 31 and so on."""

LEAST = 3


def wider(size):
    return 2 * size + 1


def narrower(size, held):
    # One step only, even where the narrower wheel would be nearly empty too.
    if size > LEAST and 4 * held < size:
        return (size - 1) // 2
    return size
