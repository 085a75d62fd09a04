"""A work: its parts, with what their cuts leave of them, and its puts."""


# A row is a number: its bit x is 1 if the part has the cell x of that row.
class Part:
    def __init__(self, lengths, grain):
        self.lengths = lengths
        self.grain = grain
        self.cut_count = 0
        self.rows = [(1 << lengths[0]) - 1] * (lengths[1] * lengths[2])

    def row_at(self, y, z):
        return self.rows[z * self.lengths[1] + y]

    def is_in_block(self, corner, lengths):
        return all([corner[k] + lengths[k] <= self.lengths[k] for k in range(3)])

    def cut_away(self, corner, lengths):
        kept = ~(((1 << lengths[0]) - 1) << corner[0])
        for z in range(corner[2], corner[2] + lengths[2]):
            for y in range(corner[1], corner[1] + lengths[1]):
                self.rows[z * self.lengths[1] + y] &= kept
        self.cut_count += 1


class Put:
    def __init__(self, part, right, back, corner):
        self.part = part
        self.right = right
        self.back = back
        self.corner = corner


class Work:
    def __init__(self):
        self.parts = []
        self.part_named = {}
        self.puts = []
        self.fault = None

    def add_part(self, name, part):
        self.parts.append(part)
        self.part_named[name] = part

    def add_put(self, put):
        self.puts.append(put)

    def last_part(self):
        return self.parts[-1]
