"""The acts that change the bytes of a sector, whole or torn by a mask."""


class Program:
    """Bytes programmed at a place of a sector: bits only fall."""

    def __init__(self, sector, place, content):
        self.sector = sector
        self.place = place
        self.content = content

    def size(self):
        """How many bytes a mask of this act has."""
        return len(self.content)

    def described(self):
        """The act as numbers: 0, the sector, the place, how many bytes, these."""
        return [0, self.sector, self.place, len(self.content)] + self.content

    def carry_out(self, sectors):
        """Do the act whole."""
        self.tear(sectors, [0] * self.size())

    def tear(self, sectors, mask):
        """Do the act, but the bits that are 1 in the mask don't fall."""
        row = sectors[self.sector]
        for k, byte in enumerate(self.content):
            place = self.place + k
            row[place] = row[place] & (byte | mask[k])


class Erase:
    """A whole sector erased: all its bits rise."""

    def __init__(self, sector, length):
        self.sector = sector
        self.length = length

    def size(self):
        """How many bytes a mask of this act has."""
        return self.length

    def described(self):
        """The act as numbers: 1, the sector."""
        return [1, self.sector]

    def carry_out(self, sectors):
        """Do the act whole."""
        self.tear(sectors, [255] * self.length)

    def tear(self, sectors, mask):
        """Do the act, but only the bits that are 1 in the mask rise."""
        row = sectors[self.sector]
        sectors[self.sector] = [byte | mask[k] for k, byte in enumerate(row)]
