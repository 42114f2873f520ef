"""Classes: all settings that reach one another, and shortest plans between them."""

from treelamps.forests import is_setting
from treelamps.slides import possible_slides, slide_lamp


def distances_from(forest, setting):
    """Return a dict from each setting that is reached to the least number of slides that lead to it."""
    distances = {setting: 0}
    waiting = [setting]
    while waiting:
        lamps = waiting.pop(0)
        for u, v in possible_slides(forest, lamps):
            other = slide_lamp(forest, lamps, u, v)
            if other not in distances:
                distances[other] = distances[lamps] + 1
                waiting.append(other)
    return distances


def class_of(forest, setting):
    """Return the class of a setting."""
    return tuple(sorted(list(distances_from(forest, setting))))


def settings_of(forest, count):
    """Return the ascending tuple of all settings with that many lamps."""
    n, edges = forest
    settings = [()]
    # No setting has more lamps than vertices, so a greater count needs no more rounds.
    for size in range(min([count, n + 1])):
        larger = [lamps + (vertex,) for lamps in settings for vertex in range(n)]
        settings = [lamps for lamps in larger if is_setting(forest, lamps)]
    return tuple(settings)


def classes_of(forest, count):
    """Return the ascending tuple of the classes of all settings with that many lamps."""
    classes = []
    seen = {}
    # Each class is found from its smallest setting, so the classes ascend.
    for setting in settings_of(forest, count):
        if setting not in seen:
            found = class_of(forest, setting)
            classes.append(found)
            for other in found:
                seen[other] = True
    return tuple(classes)


def steps_between(forest, first, second):
    """Return the least number of slides from the first setting to the second one, or None if it is not reached."""
    return distances_from(forest, first).get(second)


def closer_slide(forest, setting, distances):
    """Return the smallest slide to a setting that has a smaller distance."""
    for u, v in possible_slides(forest, setting):
        if distances[slide_lamp(forest, setting, u, v)] < distances[setting]:
            return (u, v)
    return None


def shortest_plan(forest, first, second):
    """Return the smallest one of the plans with the least number of slides, or None if there is no plan."""
    # Each slide leads back, so these are the distances to the second setting too.
    distances = distances_from(forest, second)
    if first not in distances:
        return None
    plan = []
    lamps = first
    while lamps != second:
        u, v = closer_slide(forest, lamps, distances)
        plan.append((u, v))
        lamps = slide_lamp(forest, lamps, u, v)
    return tuple(plan)
