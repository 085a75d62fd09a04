"""The calls: each takes a work's text and its dry pairs, and answers a list of whole numbers."""

from gluegrain.glue import glued_joints
from gluegrain.grid import Grid
from gluegrain.parting import clump_of, cut_strength, part_between, weakest_of
from gluegrain.reading import read_work

MOST_BYTES = 65536
MOST_DRY_NUMBERS = 992


# What every call looks at first: its refusal, empty if there's none, and the work's puts in their grid.
class Look:
    def __init__(self, refusal, grid):
        self.refusal = refusal
        self.grid = grid


def are_pairs(dry, put_count):
    if len(dry) % 2 != 0:
        return False
    for k in range(0, len(dry), 2):
        if dry[k] == dry[k + 1] or dry[k] >= put_count or dry[k + 1] >= put_count:
            return False
    return True


def look_at(text, dry):
    if len(text) > MOST_BYTES or len(dry) > MOST_DRY_NUMBERS:
        return Look([-2], None)
    work = read_work(text)
    if work.fault is not None:
        return Look([-6, work.fault[0], work.fault[1]], None)
    grid = Grid(work.puts)
    if grid.overlap is not None:
        return Look([-9, grid.overlap[0], grid.overlap[1]], None)
    if not are_pairs(dry, len(work.puts)):
        return Look([-1], None)
    return Look([], grid)


def pair_refusal(look, i, j):
    if look.refusal != []:
        return look.refusal
    put_count = len(look.grid.puts)
    if i >= put_count or j >= put_count:
        return [-4]
    if i == j:
        return [-8]
    return []


def is_set(numbers, put_count):
    if numbers == [] or numbers[-1] >= put_count:
        return False
    return all([numbers[k - 1] < numbers[k] for k in range(1, len(numbers))])


def judge(text, dry):
    look = look_at(text, dry)
    if look.refusal != []:
        return look.refusal
    return [0]


def joint(i, j, text, dry):
    look = look_at(text, dry)
    refusal = pair_refusal(look, i, j)
    if refusal != []:
        return refusal
    return [glued_joints(look.grid, dry)[i][j]]


def holds(i, j, text, dry):
    look = look_at(text, dry)
    refusal = pair_refusal(look, i, j)
    if refusal != []:
        return refusal
    parting = part_between(glued_joints(look.grid, dry), i, j)
    return [parting[0], len(parting[1])] + parting[1]


def cut(text, dry, the_set):
    look = look_at(text, dry)
    if look.refusal != []:
        return look.refusal
    if not is_set(the_set, len(look.grid.puts)):
        return [-8]
    return [cut_strength(glued_joints(look.grid, dry), the_set)]


def weakest(text, dry):
    look = look_at(text, dry)
    if look.refusal != []:
        return look.refusal
    if len(look.grid.puts) < 2:
        return [-3]
    found = weakest_of(glued_joints(look.grid, dry))
    return [found[0]] + found[1] + [len(found[2])] + found[2]


def clump(s, i, text, dry):
    look = look_at(text, dry)
    if look.refusal != []:
        return look.refusal
    if i >= len(look.grid.puts):
        return [-4]
    if s == 0:
        return [-8]
    members = clump_of(glued_joints(look.grid, dry), i, s)
    return [len(members)] + members
