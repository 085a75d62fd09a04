"""A work's text: read line by line, up to its fault if it has one."""

from gluegrain.wording import all_numbers, all_within, is_name, numbers_of, signs_of
from gluegrain.work import Part, Put, Work

RIGHT = 0
NOT_FORMED = 1
TOO_MUCH = 2
CAN_NOT_STAND = 3
CLASHES = 4

MOST_PARTS = 32
MOST_CUTS = 64
MOST_PUTS = 32
LONGEST_BLOCK = 16
FARTHEST_CORNER = 48

# In the order of the ways 0 to 5: two and two lie along one axis.
WAY_LETTERS = "rlbfud"
# In the order of the axes 0 to 2.
GRAINS = ("x", "y", "z")


def are_ways(word):
    if len(word) != 2 or word[0] not in WAY_LETTERS or word[1] not in WAY_LETTERS:
        return False
    return WAY_LETTERS.index(word[0]) // 2 != WAY_LETTERS.index(word[1]) // 2


def is_part_line(words):
    if len(words) != 6 or words[0] != "part":
        return False
    return is_name(words[1]) and all_within(words[2:5], 1, LONGEST_BLOCK) and words[5] in GRAINS


def is_cut_line(words):
    if len(words) != 7 or words[0] != "cut":
        return False
    return all_numbers(words[1:4]) and all_within(words[4:7], 1, LONGEST_BLOCK)


def is_put_line(words):
    if len(words) != 6 or words[0] != "put":
        return False
    return is_name(words[1]) and are_ways(words[2]) and all_within(words[3:6], 0, FARTHEST_CORNER)


def is_formed(words):
    return is_part_line(words) or is_cut_line(words) or is_put_line(words)


def can_stand(work, words):
    if words[0] == "part":
        return len(work.puts) == 0
    if words[0] == "cut":
        return len(work.parts) > 0 and len(work.puts) == 0
    return len(work.parts) > 0


def does_clash(work, words):
    if words[0] == "part":
        return words[1] in work.part_named
    if words[0] == "cut":
        return not work.last_part().is_in_block(numbers_of(words[1:4]), numbers_of(words[4:7]))
    return words[1] not in work.part_named


def is_too_much(work, words):
    if words[0] == "part":
        return len(work.parts) == MOST_PARTS
    if words[0] == "cut":
        return work.last_part().cut_count == MOST_CUTS
    return len(work.puts) == MOST_PUTS


# The order of the questions is the order in which reasons come first.
def why_wrong(work, words):
    if not is_formed(words):
        return NOT_FORMED
    if not can_stand(work, words):
        return CAN_NOT_STAND
    if does_clash(work, words):
        return CLASHES
    if is_too_much(work, words):
        return TOO_MUCH
    return RIGHT


def take_line(work, words):
    if words[0] == "part":
        work.add_part(words[1], Part(numbers_of(words[2:5]), GRAINS.index(words[5])))
    elif words[0] == "cut":
        work.last_part().cut_away(numbers_of(words[1:4]), numbers_of(words[4:7]))
    else:
        right = WAY_LETTERS.index(words[2][0])
        back = WAY_LETTERS.index(words[2][1])
        work.add_put(Put(work.part_named[words[1]], right, back, numbers_of(words[3:6])))


def read_work(text):
    work = Work()
    lines = signs_of(text).split("\n")
    without_feed = lines.pop()
    for number, line in enumerate(lines):
        words = line.split(" ")
        why = why_wrong(work, words)
        if why != RIGHT:
            work.fault = (number, why)
            return work
        take_line(work, words)
    if without_feed != "":
        work.fault = (len(lines), NOT_FORMED)
    return work
