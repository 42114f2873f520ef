"""Inputs for the tests, and checks written from the words of DOC.md without the package."""

from itertools import combinations

PATH_12 = (12, tuple((v, v + 1) for v in range(11)))
STAR_12 = (12, tuple((0, v) for v in range(1, 12)))
BARE_12 = (12, ())
TREES_12 = (12, ((0, 5), (1, 2), (1, 9), (3, 11), (4, 5), (5, 7), (6, 10), (7, 8)))
SPIDER_12 = (12, ((0, 11), (1, 11), (2, 6), (3, 7), (4, 8), (5, 9), (6, 11), (7, 11), (8, 11), (9, 10), (10, 11)))
LARGE_FORESTS = (PATH_12, STAR_12, BARE_12, TREES_12, SPIDER_12)


def touches(forest, a, b):
    return (a, b) in forest[1] or (b, a) in forest[1]


def walk(edges, start):
    """The vertices that can be reached from start."""
    seen = [start]
    for vertex in seen:
        for edge in edges:
            if vertex in edge:
                other = sum(edge) - vertex
                if other not in seen:
                    seen.append(other)
    return seen


def has_cycle(edges):
    """Whether some edge joins vertices that the other edges join too."""
    return any(b in walk([other for other in edges if other != (a, b)], a) for a, b in edges)


def all_forests(n):
    """Every forest with the vertices 0 to n - 1."""
    pairs = list(combinations(range(n), 2))
    found = []
    for many in range(max(n, 1)):
        for edges in combinations(pairs, many):
            if not has_cycle(edges):
                found.append((n, edges))
    return found


def small_forests(n):
    """Every forest with at most n vertices."""
    return [forest for size in range(n + 1) for forest in all_forests(size)]


def all_subsets(n):
    return [chosen for many in range(n + 1) for chosen in combinations(range(n), many)]


def is_free(forest, chosen):
    return not any(touches(forest, a, b) for a, b in combinations(chosen, 2))


def all_settings(forest):
    return [chosen for chosen in all_subsets(forest[0]) if is_free(forest, chosen)]


def slide_is_possible(forest, setting, u, v):
    """The words of [5], pair by pair."""
    beside = [lamp for lamp in setting if touches(forest, lamp, v)]
    return touches(forest, u, v) and u in setting and v not in setting and beside == [u]


def deep_list(levels):
    value = []
    for level in range(levels):
        value = [value] if level % 2 else (value,)
    return value


def odd_values():
    """Values of other kinds than numbers, new ones at each call."""
    return [
        None, True, False, "", "0", "1", "none", "a text\nof two lines", "x" * 2000,
        (), (0,), (1,), (0, 1), (1, 0), (True, False), (0, 1, 2), ((0, 1),), (None,), ("0", "1"),
        [], [0], [1], [0, 1], [[0, 1]], [None], [True],
        {}, {"0": 1}, {"n": 3, "edges": ((0, 1),)}, {"a": {"b": [1, (2, {"c": None})]}},
        (3, [(0, 1)]), [3, ((0, 1),)], deep_list(20), tuple(range(1000)), [None] * 999,
    ]


def odd_numbers(n):
    """Numbers that are no vertices of a forest with n vertices."""
    return [-1, -2, n, n + 1, 10 ** 29, -(10 ** 29)]
