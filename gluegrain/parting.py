"""Where a work would part: how strong two puts hold one another, and the cut that shows it."""


def cut_strength(joints, members):
    strength = 0
    for i in members:
        for j, joint in enumerate(joints[i]):
            if j not in members:
                strength += joint
    return strength


# Each put that pull can reach from the start, with the put it comes to it from.
def reach(free, start):
    came_from = {start: start}
    waiting = [start]
    while waiting != []:
        following = []
        for put in waiting:
            for other, room in enumerate(free[put]):
                if room > 0 and other not in came_from:
                    came_from[other] = put
                    following.append(other)
        waiting = following
    return came_from


def steps_to(goal, came_from):
    steps = []
    put = goal
    while came_from[put] != put:
        steps.append((came_from[put], put))
        put = came_from[put]
    return steps


def pull_along(free, steps):
    load = min([free[put][other] for put, other in steps])
    for put, other in steps:
        free[put][other] -= load
        free[other][put] += load
    return load


# As much is pulled from i to j as the joints bear. That is as strong as they hold; and what can then
# still be reached from i lies in every cut of that strength.
def part_between(joints, i, j):
    free = [list(row) for row in joints]
    strength = 0
    reached = reach(free, i)
    while j in reached:
        strength += pull_along(free, steps_to(j, reached))
        reached = reach(free, i)
    return (strength, sorted(reached))


# Of each cut one side has put 0. So it's as weak between put 0 and some other as between any two,
# and the first pair for which it's so begins with put 0.
def weakest_of(joints):
    weakest = None
    for second in range(1, len(joints)):
        parting = part_between(joints, 0, second)
        if weakest is None or parting[0] < weakest[0]:
            weakest = (parting[0], [0, second], parting[1])
    return weakest


def clump_of(joints, i, s):
    return [j for j in range(len(joints)) if j == i or part_between(joints, i, j)[0] >= s]
