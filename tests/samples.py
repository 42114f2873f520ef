"""Inputs for the tests, and checks written from the words of DOC.md without the package."""

from itertools import combinations

PATH_12 = (12, tuple((v, v + 1) for v in range(11)))
STAR_12 = (12, tuple((0, v) for v in range(1, 12)))
BARE_12 = (12, ())
TREES_12 = (12, ((0, 5), (1, 2), (1, 9), (3, 11), (4, 5), (5, 7), (6, 10), (7, 8)))
SPIDER_12 = (12, ((0, 11), (1, 11), (2, 6), (3, 7), (4, 8), (5, 9), (6, 11), (7, 11), (8, 11), (9, 10), (10, 11)))
LARGE_FORESTS = (PATH_12, STAR_12, BARE_12, TREES_12, SPIDER_12)
CATERPILLAR_12 = (12, ((0, 1), (0, 6), (1, 2), (1, 7), (2, 3), (2, 8), (3, 4), (3, 9), (4, 5), (4, 10), (5, 11)))
COMB_9 = (9, ((0, 1), (1, 2), (1, 5), (2, 3), (2, 6), (2, 7), (3, 4), (3, 8)))
TREES_10 = (10, ((0, 1), (0, 2), (0, 3), (3, 4), (5, 6), (6, 7), (7, 8)))
HUBS_11 = (11, ((0, 1), (0, 2), (0, 3), (3, 4), (4, 5), (4, 6), (4, 7), (7, 8), (8, 9), (8, 10)))


def renamed(forest, names):
    """The forest in which v is called names[v]."""
    return (forest[0], tuple(sorted(tuple(sorted((names[a], names[b]))) for a, b in forest[1])))


COMB_9_RENAMED = renamed(COMB_9, (4, 8, 0, 6, 2, 7, 1, 5, 3))
HUBS_11_RENAMED = renamed(HUBS_11, (10, 3, 7, 0, 5, 1, 8, 9, 2, 6, 4))
CATERPILLAR_12_RENAMED = renamed(CATERPILLAR_12, (7, 2, 11, 0, 9, 4, 1, 10, 3, 8, 5, 6))
PATHS = tuple((n, tuple((v, v + 1) for v in range(n - 1))) for n in range(6, 12))
STARS = tuple((n, tuple((v, n - 1) for v in range(n - 1))) for n in (6, 8, 10))
MIDDLE_FORESTS = PATHS + STARS + (COMB_9, COMB_9_RENAMED, TREES_10, HUBS_11, HUBS_11_RENAMED)
LARGER_FORESTS = MIDDLE_FORESTS + LARGE_FORESTS + (CATERPILLAR_12, CATERPILLAR_12_RENAMED)


def touches(forest, a, b):
    return (a, b) in forest[1] or (b, a) in forest[1]


def walk(edges, start):
    """The vertices that can be reached from start."""
    seen = [start]
    for vertex in seen:
        for edge in edges:
            if vertex in edge:
                other = sum(edge) - vertex
                if other not in seen:
                    seen.append(other)
    return seen


def has_cycle(edges):
    """Whether some edge joins vertices that the other edges join too."""
    return any(b in walk([other for other in edges if other != (a, b)], a) for a, b in edges)


def all_forests(n):
    """Every forest with the vertices 0 to n - 1."""
    pairs = list(combinations(range(n), 2))
    found = []
    for many in range(max(n, 1)):
        for edges in combinations(pairs, many):
            if not has_cycle(edges):
                found.append((n, edges))
    return found


def small_forests(n):
    """Every forest with at most n vertices."""
    return [forest for size in range(n + 1) for forest in all_forests(size)]


def all_subsets(n):
    return [chosen for many in range(n + 1) for chosen in combinations(range(n), many)]


def is_free(forest, chosen):
    return not any(touches(forest, a, b) for a, b in combinations(chosen, 2))


def all_settings(forest):
    return [chosen for chosen in all_subsets(forest[0]) if is_free(forest, chosen)]


def slide_is_possible(forest, setting, u, v):
    """The words of [5], pair by pair."""
    beside = [lamp for lamp in setting if touches(forest, lamp, v)]
    return touches(forest, u, v) and u in setting and v not in setting and beside == [u]


def after_slide(setting, u, v):
    return tuple(sorted({*setting, v} - {u}))


def steps_from(forest, setting):
    """The pairs of a possible slide and the setting after it, by the words of [5]."""
    pairs = [(u, v) for edge in forest[1] for u, v in (edge, edge[::-1])]
    return [(pair, after_slide(setting, *pair)) for pair in pairs if slide_is_possible(forest, setting, *pair)]


def class_by_search(forest, setting):
    """All settings that some slides lead to."""
    found = [setting]
    seen = {setting}
    for one in found:
        for _, other in steps_from(forest, one):
            if other not in seen:
                seen.add(other)
                found.append(other)
    return found


def classes_by_search(forest):
    classes = []
    seen = set()
    for setting in all_settings(forest):
        if setting not in seen:
            classes.append(class_by_search(forest, setting))
            seen.update(classes[-1])
    return classes


def all_numbers(value):
    """Whether value is a tuple of ints that are no bools."""
    return type(value) is tuple and all(type(item) is int for item in value)


def follow_by_words(forest, setting, slides):
    """The setting after the slides, or None if they are not a tuple of slides that are possible one after another."""
    if type(slides) is not tuple:
        return None
    for item in slides:
        if not all_numbers(item) or len(item) != 2 or not slide_is_possible(forest, setting, *item):
            return None
        setting = after_slide(setting, *item)
    return setting


def beside(forest, chosen, vertex):
    return [other for other in chosen if touches(forest, vertex, other)]


def is_lock_by_words(forest, setting, value):
    """The words of [6], vertex by vertex."""
    if not all_numbers(value) or list(value) != sorted(set(value)) or not set(value) <= set(setting):
        return False
    return all(len(beside(forest, value, vertex)) != 1 for vertex in range(forest[0]))


def subsets_of(items):
    return [chosen for many in range(len(items) + 1) for chosen in combinations(items, many)]


def locks_of(forest, setting):
    """All locks of a setting."""
    return [chosen for chosen in subsets_of(setting) if is_lock_by_words(forest, setting, chosen)]


def greatest_by_words(forest, setting):
    """The greatest lock, by removing lamps one after another from the last one on."""
    left = list(setting)
    for lamp in [lamp for _ in setting for lamp in reversed(setting)]:
        dark = beside(forest, range(forest[0]), lamp)
        if lamp in left and any(beside(forest, left, vertex) == [lamp] for vertex in dark):
            left.remove(lamp)
    return tuple(left)


def pieces_by_words(forest, lock):
    free = [v for v in range(forest[0]) if v not in lock and not beside(forest, lock, v)]
    edges = [edge for edge in forest[1] if set(edge) <= set(free)]
    return tuple(sorted({tuple(sorted(walk(edges, vertex))) for vertex in free}))


def count_in(setting, piece):
    return len(set(setting) & set(piece))


def deep_list(levels):
    value = []
    for level in range(levels):
        value = [value] if level % 2 else (value,)
    return value


def odd_values():
    """Values of other kinds than numbers, new ones at each call."""
    return [
        None, True, False, "", "0", "1", "none", "a text\nof two lines", "x" * 2000,
        (), (0,), (1,), (0, 1), (1, 0), (True, False), (0, 1, 2), ((0, 1),), (None,), ("0", "1"),
        [], [0], [1], [0, 1], [[0, 1]], [None], [True],
        {}, {"0": 1}, {"n": 3, "edges": ((0, 1),)}, {"a": {"b": [1, (2, {"c": None})]}},
        (3, [(0, 1)]), [3, ((0, 1),)], deep_list(20), tuple(range(1000)), [None] * 999,
    ]


def odd_numbers(n):
    """Numbers that are no vertices of a forest with n vertices."""
    return [-1, -2, n, n + 1, 10 ** 29, -(10 ** 29)]


def with_one_part_replaced(value, others):
    """Copies of a nested tuple in which one part, at any depth, is another value or a list, or left out, or doubled."""
    yield from others
    if type(value) is int and value in (0, 1):
        yield bool(value)
    if type(value) is tuple:
        yield list(value)
        for at, part in enumerate(value):
            yield value[:at] + value[at + 1:]
            yield value[:at] + (part,) + value[at:]
            for other in with_one_part_replaced(part, others):
                yield value[:at] + (other,) + value[at + 1:]
