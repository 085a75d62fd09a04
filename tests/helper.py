"""What the tests share: how a work is written down and handed over."""

from gluegrain.bench import judge

WAYS = "rlbfud"
STEPS = {
    "r": (1, 0, 0), "l": (-1, 0, 0),
    "b": (0, 1, 0), "f": (0, -1, 0),
    "u": (0, 0, 1), "d": (0, 0, -1),
}
ACROSS = [a + b for a in WAYS for b in WAYS if WAYS.index(a) // 2 != WAYS.index(b) // 2]
ALONG = [a + b for a in WAYS for b in WAYS if WAYS.index(a) // 2 == WAYS.index(b) // 2]


def bytes_of(text):
    return list(text.encode("latin-1"))


def text_of(lines):
    return bytes_of("".join([line + "\n" for line in lines]))


def judge_lines(lines, dry=()):
    return judge(text_of(lines), list(dry))


def apart(count, name="a"):
    """Puts of a part of one cell, none of which touches another."""
    return [f"put {name} rb {2 * (k % 24)} {2 * (k // 24)} 0" for k in range(count)]
