"""What tests draw by lot, from dice with a seed."""


def random_mask(dice, size):
    """A byte for each of an act's: none, all, up to an edge, one bit of one byte, or any."""
    pick = dice.randrange(6)
    if pick == 0:
        return [0] * size
    if pick == 1:
        return [255] * size
    if pick < 4:
        edge = dice.randrange(size + 1)
        before, behind = (0, 255) if pick == 2 else (255, 0)
        return [before] * edge + [behind] * (size - edge)
    if pick == 4:
        one = dice.randrange(size)
        return [1 << dice.randrange(8) if p == one else 0 for p in range(size)]
    return [dice.randrange(256) for p in range(size)]
