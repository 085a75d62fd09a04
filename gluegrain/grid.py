"""The grid: which of its cells a put has, where its grain lies, and which puts overlap."""

# The steps of the ways 0 to 5.
STEPS = ((1, 0, 0), (-1, 0, 0), (0, 1, 0), (0, -1, 0), (0, 0, 1), (0, 0, -1))

# A cell's number is its place weighed by these. Puts reach no farther than 63 along an axis,
# so with 65 to a row no step over an edge comes upon the number of a put's cell.
STRIDES = (1, 65, 4225)


def up_way(right, back):
    a = STEPS[right]
    b = STEPS[back]
    up = (a[1] * b[2] - a[2] * b[1], a[2] * b[0] - a[0] * b[2], a[0] * b[1] - a[1] * b[0])
    return STEPS.index(up)


def ways_of(put):
    return (put.right, put.back, up_way(put.right, put.back))


# Two ways, there and back, lie along each axis.
def grain_axis(put):
    return ways_of(put)[put.part.grain] // 2


def cell_number(place):
    return sum([place[k] * STRIDES[k] for k in range(3)])


def cells_along(part, start, strides):
    cells = []
    for z in range(part.lengths[2]):
        for y in range(part.lengths[1]):
            row = part.row_at(y, z)
            first = start + y * strides[1] + z * strides[2]
            for x in range(part.lengths[0]):
                if (row >> x) & 1 == 1:
                    cells.append(first + x * strides[0])
    return cells


def cells_of(put):
    start = cell_number(put.corner)
    strides = []
    for way, length in zip(ways_of(put), put.part.lengths):
        stride = STRIDES[way // 2]
        if way % 2 == 0:
            strides.append(stride)
        else:
            # The axis points down the grid's, so its cell 0 lies farthest from the corner.
            start += (length - 1) * stride
            strides.append(-stride)
    return cells_along(put.part, start, strides)


class Grid:
    def __init__(self, puts):
        self.puts = puts
        self.owner_of = {}
        self.overlap = None
        for j, put in enumerate(puts):
            self.lay(j, put)

    # Asking only for the first owner of a cell is enough: of all puts that have the cell,
    # the first pair begins with it.
    def lay(self, j, put):
        for cell in cells_of(put):
            i = self.owner_of.setdefault(cell, j)
            if i != j and (self.overlap is None or (i, j) < self.overlap):
                self.overlap = (i, j)
