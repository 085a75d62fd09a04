"""The calls: each takes a work's text and its dry pairs, and answers a list of whole numbers."""

from gluegrain.grid import first_overlap
from gluegrain.reading import read_work

MOST_BYTES = 65536
MOST_DRY_NUMBERS = 992


def are_pairs(dry, put_count):
    if len(dry) % 2 != 0:
        return False
    for k in range(0, len(dry), 2):
        if dry[k] == dry[k + 1] or dry[k] >= put_count or dry[k + 1] >= put_count:
            return False
    return True


def first_refusal(text, dry):
    if len(text) > MOST_BYTES or len(dry) > MOST_DRY_NUMBERS:
        return [-2]
    work = read_work(text)
    if work.fault is not None:
        return [-6, work.fault[0], work.fault[1]]
    pair = first_overlap(work.puts)
    if pair is not None:
        return [-9, pair[0], pair[1]]
    if not are_pairs(dry, len(work.puts)):
        return [-1]
    return []


def judge(text, dry):
    refusal = first_refusal(text, dry)
    if refusal != []:
        return refusal
    return [0]
