"""What the tests share: works written down and handed over, and their joints and cuts found the slow way."""

import contextlib
import io
import itertools

from gluegrain.bench import judge

WAYS = "rlbfud"
STEPS = {
    "r": (1, 0, 0), "l": (-1, 0, 0),
    "b": (0, 1, 0), "f": (0, -1, 0),
    "u": (0, 0, 1), "d": (0, 0, -1),
}
ACROSS = [a + b for a in WAYS for b in WAYS if WAYS.index(a) // 2 != WAYS.index(b) // 2]
ALONG = [a + b for a in WAYS for b in WAYS if WAYS.index(a) // 2 == WAYS.index(b) // 2]

# Of three unlike lengths, and with cells left that no turn and no mirror maps to themselves.
CROOKED = ["part a 2 3 4 x", "cut 0 0 1 1 3 3", "cut 1 0 2 1 2 2", "cut 0 2 0 2 1 1", "cut 1 2 1 1 1 2"]

LARGEST_NUMBER = 4294967295


def bytes_of(text):
    return list(text.encode("latin-1"))


def text_of(lines):
    return bytes_of("".join([line + "\n" for line in lines]))


def judge_lines(lines, dry=()):
    return judge(text_of(lines), list(dry))


def apart(count, name="a"):
    """Puts of a part of one cell, none of which touches another."""
    return [f"put {name} rb {2 * (k % 24)} {2 * (k // 24)} 0" for k in range(count)]


def cells_left(block, cuts):
    """The cells of a block that no cut has."""
    return [cell for cell in itertools.product(*[range(length) for length in block])
            if not any(all(cut[k] <= cell[k] < cut[k] + cut[k + 3] for k in range(3)) for cut in cuts)]


def vectors(ways):
    """Where the part's right, back and up point."""
    a, b = STEPS[ways[0]], STEPS[ways[1]]
    return a, b, (a[1] * b[2] - a[2] * b[1], a[2] * b[0] - a[0] * b[2], a[0] * b[1] - a[1] * b[0])


def turned(cells, block, ways):
    """Each cell's place as a sum of steps; then all moved so that the block's lowest corner is 0."""
    a, b, up = vectors(ways)

    def place(cell):
        return tuple(cell[0] * a[k] + cell[1] * b[k] + cell[2] * up[k] for k in range(3))

    block_places = [place(cell) for cell in itertools.product(*[range(length) for length in block])]
    lowest = [min(at[k] for at in block_places) for k in range(3)]
    return {tuple(at[k] - lowest[k] for k in range(3)) for at in map(place, cells)}


def puts_of(lines):
    """Of a right work each put's cells, and the axis that its grain lies along."""
    parts, puts = {}, []
    for words in [line.split() for line in lines]:
        if words[0] == "part":
            cuts = []
            parts[words[1]] = ([int(word) for word in words[2:5]], "xyz".index(words[5]), cuts)
        elif words[0] == "cut":
            cuts.append([int(word) for word in words[1:]])
        else:
            block, grain, its_cuts = parts[words[1]]
            corner = [int(word) for word in words[3:]]
            cells = {tuple(at[k] + corner[k] for k in range(3))
                     for at in turned(cells_left(block, its_cuts), block, words[2])}
            puts.append((cells, [abs(step) for step in vectors(words[2])[grain]].index(1)))
    return puts


def joint_table(lines, dry=()):
    """Each two puts' joint, face by face, all six ways."""
    puts = puts_of(lines)
    dry_pairs = {frozenset(dry[k:k + 2]) for k in range(0, len(dry), 2)}
    table = [[0] * len(puts) for put in puts]
    for i, j in itertools.permutations(range(len(puts)), 2):
        if frozenset((i, j)) in dry_pairs:
            continue
        for way in WAYS:
            step = STEPS[way]
            axis = [abs(length) for length in step].index(1)
            ends = [puts[i][1], puts[j][1]].count(axis)
            worth = (6 if puts[i][1] == puts[j][1] else 4, 1, 0)[ends]
            beside = {tuple(cell[k] + step[k] for k in range(3)) for cell in puts[i][0]}
            table[i][j] += worth * len(beside & puts[j][0])
    return table


def turned_work(lines, ways, move):
    """The work with all its puts turned alike, as ways say, and moved so that its lowest corner is move."""
    axes = vectors(ways)

    def turned_place(place):
        return tuple(sum(place[k] * axes[k][at] for k in range(3)) for at in range(3))

    letters = {step: letter for letter, step in STEPS.items()}
    blocks = {line.split()[1]: [int(word) for word in line.split()[2:5]] for line in lines if line.startswith("part")}
    turned_puts = []
    for words in [line.split() for line in lines if line.startswith("put")]:
        block = blocks[words[1]]
        cells = turned(cells_left(block, []), block, words[2])
        places = [turned_place([cell[k] + int(words[3 + k]) for k in range(3)]) for cell in cells]
        new_ways = "".join([letters[turned_place(STEPS[way])] for way in words[2]])
        turned_puts.append((words[1], new_ways, [min(place[k] for place in places) for k in range(3)]))
    lowest = [min(corner[k] for name, new_ways, corner in turned_puts) for k in range(3)]
    new_lines = [line for line in lines if not line.startswith("put")]
    for name, new_ways, corner in turned_puts:
        x, y, z = [corner[k] - lowest[k] + move[k] for k in range(3)]
        new_lines.append(f"put {name} {new_ways} {x} {y} {z}")
    return new_lines


def strength(table, members):
    outside = [j for j in range(len(table)) if j not in members]
    return sum([table[i][j] for i in members for j in outside])


def cuts_between(count, i, j):
    """Every set of puts that has i and not j."""
    others = [k for k in range(count) if k not in (i, j)]
    for size in range(len(others) + 1):
        for more in itertools.combinations(others, size):
            yield sorted((i,) + more)


def least_cuts(table, i, j):
    """The least strength of a cut between i and j, and all cuts of that strength, those of few puts first."""
    found = [(strength(table, members), members) for members in cuts_between(len(table), i, j)]
    least = min(found)[0]
    return least, [members for told, members in found if told == least]


def cell_row(grains):
    """Cells in a row to the back, one for each grain: where two grains are alike (not y) they're glued with 6,
    x and z with 4, y and another with 1, y and y with 0."""
    parts = [f"part {grain} 1 1 1 {grain}" for grain in "xyz"]
    return parts + [f"put {grain} rb 0 {k} 0" for k, grain in enumerate(grains)]


def cell_ring(grains):
    """Cells round a square of three by three with a hole, from its corner on, one for each grain."""
    places = [(0, 0), (1, 0), (2, 0), (2, 1), (2, 2), (1, 2), (0, 2), (0, 1)]
    parts = [f"part {grain} 1 1 1 {grain}" for grain in "xyz"]
    return parts + [f"put {grain} rb {x} {y} 0" for grain, (x, y) in zip(grains, places, strict=True)]


def random_work(rng, count, reach=2):
    """Puts of some turned and cut parts, close together, none of which overlaps another."""
    lines = []
    for name in "abcd":
        block = [rng.randint(1, 3) for k in range(3)]
        lines.append(f"part {name} {block[0]} {block[1]} {block[2]} {rng.choice('xyz')}")
        for k in range(rng.randint(0, 2)):
            corner = [rng.randrange(length) for length in block]
            sizes = [rng.randint(1, block[k] - corner[k]) for k in range(3)]
            lines.append("cut " + " ".join(map(str, corner + sizes)))
    taken, placed = set(), 0
    while placed < count:
        corner = [rng.randint(0, reach) for k in range(3)]
        line = f"put {rng.choice('abcd')} {rng.choice(ACROSS)} {corner[0]} {corner[1]} {corner[2]}"
        cells = puts_of(lines + [line])[-1][0]
        if not cells & taken:
            lines.append(line)
            taken |= cells
            placed += 1
        elif rng.random() < 0.05:
            reach += 1
    return lines


def random_cells(rng, count, sides):
    """Puts of one cell, of any grain, in a block of such sides, so that most touch several others."""
    places = rng.sample(list(itertools.product(*[range(side) for side in sides])), count)
    parts = [f"part {grain} 1 1 1 {grain}" for grain in "xyz"]
    return parts + [f"put {rng.choice('xyz')} rb {at[0]} {at[1]} {at[2]}" for at in places]


def random_dry(rng, count, pairs):
    dry = []
    for k in range(pairs):
        dry += rng.sample(range(count), 2)
    return dry


THREE = ["part a 1 1 1 x", "put a rb 0 0 0", "put a rb 0 1 0", "put a rb 0 2 0"]
OVERLAPPING = ["part a 1 1 1 x", "put a rb 0 0 0", "put a rb 5 0 0", "put a rb 0 0 0", "put a rb 5 0 0"]

# What every call refuses first, and how, with as much of what comes later wrong as can be.
FIRST_REFUSALS = [
    ([10] * 65537, [7], [-2]),
    ((text_of(OVERLAPPING) * 900)[:65600], [], [-2]),
    (text_of(OVERLAPPING + [""]), [7] * 993, [-2]),
    (text_of(OVERLAPPING), [7] * 993, [-2]),
    (text_of(THREE), [0, 1] * 497, [-2]),
    ([10] * 65536, [7] * 992, [-6, 0, 1]),
    (text_of(OVERLAPPING + ["cut 0 0 0 1 1 1"]), [7], [-6, 5, 3]),
    (text_of(OVERLAPPING + ["put b rb 0 0 0"]), [0, 0], [-6, 5, 4]),
    (text_of(OVERLAPPING)[:-1], [], [-6, 4, 1]),
    (text_of(["put a rb 0 0 0"]), [9, 8], [-6, 0, 3]),
    (text_of(["part a 1 1 1 x"] + apart(33)), [], [-6, 33, 2]),
    (text_of(OVERLAPPING), [7], [-9, 0, 2]),
    (text_of(OVERLAPPING), [1, 1], [-9, 0, 2]),
    (text_of(OVERLAPPING), [0, 2, 1, 3], [-9, 0, 2]),
    (text_of(THREE), [0], [-1]),
    (text_of(THREE), [0, 1, 2], [-1]),
    (text_of(THREE), [0, 1, 2, 2], [-1]),
    (text_of(THREE), [0, 1, 1, 3], [-1]),
    (text_of(THREE), [LARGEST_NUMBER, 0], [-1]),
    (text_of(THREE[:1]), [0, 1], [-1]),
    ([], [0, 1], [-1]),
    ([], [5], [-1]),
]


class Watched(list):
    """A list that tells when it is changed, for however short a while."""

    def refuse(self, *given, **named):
        raise AssertionError("what was handed in is changed")

    append = extend = insert = pop = remove = clear = sort = reverse = refuse
    __setitem__ = __delitem__ = __iadd__ = __imul__ = refuse


class HandingChecks:
    """What holds of every call, whatever it answers; a test case says which call and names its `handed`."""

    call = None
    names = ()
    handed = []

    def answers(self):
        return [self.call(*given) for given, answer in self.handed]

    def test_answers(self):
        for given, answer in self.handed:
            self.assertEqual(self.call(*given), answer, given)

    def test_nothing_handed_in_is_changed(self):
        for given, answer in self.handed:
            watched = [Watched(value) if isinstance(value, list) else value for value in given]
            self.assertEqual(self.call(*watched), answer)
            self.assertEqual([list(value) if isinstance(value, list) else value for value in watched], list(given))

    def test_a_second_call_answers_as_the_first(self):
        first = self.answers()
        self.assertEqual(self.answers(), first)
        self.assertEqual([self.call(*given) for given, answer in reversed(self.handed)], first[::-1])

    def test_a_changed_answer_changes_no_later_one(self):
        for given, answer in self.handed:
            told = self.call(*given)
            told.append(7)
            told[0] = 5
            self.assertEqual(self.call(*given), answer)

    def test_answers_are_lists_of_whole_numbers(self):
        for told in self.answers():
            self.assertIs(type(told), list)
            self.assertEqual({type(number) for number in told}, {int})

    def test_arguments_by_name(self):
        for given, answer in self.handed:
            self.assertEqual(self.call(**dict(zip(self.names, given, strict=True))), answer)

    def test_nothing_is_printed(self):
        out, err = io.StringIO(), io.StringIO()
        with contextlib.redirect_stdout(out), contextlib.redirect_stderr(err):
            self.answers()
        self.assertEqual(out.getvalue() + err.getvalue(), "")
