"""Glue: what the faces that puts touch with are worth, and their joints."""

from gluegrain.grid import STRIDES, grain_axis

BOTH_ENDS = 0
END_ON_LONG = 1
LONG_ACROSS = 4
LONG_ALONG = 6


def face_worth(grain, other_grain, axis):
    if grain == axis and other_grain == axis:
        return BOTH_ENDS
    if grain == axis or other_grain == axis:
        return END_ON_LONG
    if grain == other_grain:
        return LONG_ALONG
    return LONG_ACROSS


# The joints stand in rows, one for each put: row i has at j the joint of i and j.
def joints_of(grid):
    grains = [grain_axis(put) for put in grid.puts]
    joints = [[0] * len(grains) for grain in grains]
    for cell, i in grid.owner_of.items():
        # Only up each axis: a face that looks down is met from the cell below it.
        for axis in range(3):
            j = grid.owner_of.get(cell + STRIDES[axis], i)
            if j != i:
                worth = face_worth(grains[i], grains[j], axis)
                joints[i][j] += worth
                joints[j][i] += worth
    return joints


def glued_joints(grid, dry):
    joints = joints_of(grid)
    for k in range(0, len(dry), 2):
        joints[dry[k]][dry[k + 1]] = 0
        joints[dry[k + 1]][dry[k]] = 0
    return joints
