"""Webs to be tried, and what the tests ask of them."""

import signal
from contextlib import contextmanager
from itertools import combinations, permutations, product

from sameweb.webs import Web, renumbered


def all_webs(size, colours):
    """All webs of the size whose points have these colours."""
    pairs = list(combinations(range(size), 2))
    webs = []
    for chosen in product(colours, repeat=size):
        for kept in product((False, True), repeat=len(pairs)):
            webs.append(Web(list(chosen), [pair for pair, keep in zip(pairs, kept) if keep]))
    return webs


def told(web):
    """The colours and ties of a web, to be compared and to be a key."""
    return tuple(web.colours()), tuple(web.ties())


def kinds(webs):
    """The webs by kinds: two are in one list just where some row leads from one to the other, all rows tried."""
    lists = []
    kind_of = {}
    for web in webs:
        if told(web) not in kind_of:
            for row in permutations(range(web.size)):
                kind_of[told(renumbered(web, list(row)))] = len(lists)
            lists.append([])
        lists[kind_of[told(web)]].append(web)
    return lists


def tie(a, b):
    """The tie of two points in any order."""
    return (min(a, b), max(a, b))


def ring(size, step=1):
    """The ties of each point of the size with the one so many steps on, all round."""
    return sorted({tie(k, (k + step) % size) for k in range(size)})


def shifted(ties, by):
    """The ties between points that are so much greater."""
    return [(a + by, b + by) for a, b in ties]


def rings(*sizes):
    """The ties of rings of these sizes, one behind the other."""
    return [pair for at, size in enumerate(sizes) for pair in shifted(ring(size), sum(sizes[:at]))]


def path(size):
    """The ties of each point below the size with the next one."""
    return [(k, k + 1) for k in range(size - 1)]


def all_ties(size):
    """All ties of points below the size."""
    return list(combinations(range(size), 2))


def sides(one, other):
    """All ties across of a side of the first points and a side of the points behind them."""
    return [(a, b) for a in range(one) for b in range(one, one + other)]


def turned_webs(size):
    """Webs of one colour, of a size from 6 on, most of them with many turns, each with a name."""
    half = size // 2
    across = [(k, k + half) for k in range(half)]
    ties = {
        "no ties": [],
        "one tie": [(0, 1)],
        "all ties": all_ties(size),
        "all ties but one": all_ties(size)[1:],
        "pairs": [(2 * k, 2 * k + 1) for k in range(half)],
        "all ties but those of pairs": sorted(set(all_ties(size)) - {(2 * k, 2 * k + 1) for k in range(half)}),
        "pairs side by side": across,
        "path": path(size),
        "ring": ring(size),
        "all ties but those of a ring": sorted(set(all_ties(size)) - set(ring(size))),
        "ring with longer steps, too": sorted(set(ring(size) + ring(size, 2))),
        "two rings": rings(half, size - half),
        "rings of three": rings(*[3] * (size // 3)),
        "ladder": path(half) + shifted(path(half), half) + across,
        "ladder that ends where it begins": rings(half, half) + across,
        "two sides with all ties across": sides(half, size - half),
        "two sides, one of two points": sides(2, size - 2),
        "two sides with all ties but those of pairs": [(a, b) for a, b in sides(half, half) if b != a + half],
        "two with all ties within, pairs across": all_ties(half) + shifted(all_ties(half), half) + across,
        "one point beside all others": sides(1, size - 1),
        "tree of twos": [((k - 1) // 2, k) for k in range(1, size)],
        "tree of threes": [((k - 1) // 3, k) for k in range(1, size)],
    }
    return {name: Web([0] * size, pairs) for name, pairs in ties.items()}


def coloured_webs(size):
    """Webs of several colours, of a size from 6 on, each with a name."""
    half = size // 2
    ways = {
        "two colours, side by side": [0] * half + [1] * (size - half),
        "two colours by turns": [(k + 1) % 2 for k in range(size)],
        "one point of its own": [9] + [4] * (size - 1),
        "many colours": [k % 10 for k in range(size)],
    }
    webs = {}
    for name, web in turned_webs(size).items():
        for way, colours in ways.items():
            webs[name + ", " + way] = Web(colours, web.ties())
    return webs


def some_rows(size):
    """Rows of several kinds of a size from 2 on."""
    points = list(range(size))
    steps = [step for step in (5, 7) if size % step]
    return [
        points,
        points[::-1],
        points[1:] + points[:1],
        [1, 0] + points[2:],
        points[0::2] + points[1::2],
    ] + [[(step * k + 1) % size for k in points] for step in steps]


def webs_of_rings():
    """Webs of twelve points, each with two points beside it, or with all but two, none like another one."""
    many = [(12,), (3, 9), (4, 8), (5, 7), (6, 6), (3, 3, 6), (3, 4, 5), (4, 4, 4), (3, 3, 3, 3)]
    ties = [rings(*sizes) for sizes in many]
    ties += [sorted(set(all_ties(12)) - set(tied)) for tied in ties]
    return [Web([0] * 12, tied) for tied in ties]


@contextmanager
def in_time(seconds):
    """Fails where what is done within takes longer than so many seconds."""
    def fail(*_):
        raise AssertionError(f"no answer in {seconds} seconds")
    before = signal.signal(signal.SIGALRM, fail)
    signal.alarm(seconds)
    try:
        yield
    finally:
        signal.alarm(0)
        signal.signal(signal.SIGALRM, before)
