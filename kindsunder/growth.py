"""Whether a table lets types grow without end: steps between parameters, rings of them, levels and roads."""

from kindsunder.basics import LETTERS, depth_of, direct_supertypes, is_number, is_variable, open_shape, parts_of
from kindsunder.basics import trail, variables_in
from kindsunder.errors import InvalidNumber, NotTame
from kindsunder.tables import check_table

MOST_DEPTH = 30


def steps_within(class_number, part):
    """The steps that a part of a super of a class gives, without those of the parts within it."""
    if is_variable(part):
        return []
    found = []
    for number, inner in enumerate(part[1:]):
        for letter in variables_in(inner):
            found.append((class_number, LETTERS.index(letter), part[0], number, inner != letter))
    return found


def steps_of(table):
    """The ascending list of the steps, each once."""
    found = []
    for class_number, row in enumerate(table):
        for shape in row[1]:
            for _, part in parts_of(shape):
                found.extend(steps_within(class_number, part))
    return sorted(set(found))


def growing_ring_of(table):
    """A ring of steps that begins with a growing one, or None."""
    edges = [(step[:2], step[2:4], step) for step in steps_of(table)]
    for start, end, step in edges:
        if step[4]:
            back = trail(edges, end, start)
            if back is not None:
                return [step] + [edge[2] for edge in back]
    return None


def levels_of(table):
    """The least levels, or None if the table is not tame."""
    if growing_ring_of(table) is not None:
        return None
    all_steps = steps_of(table)
    found = {(number, at): 0 for number, row in enumerate(table) for at in range(len(row[0]))}
    rising = True
    while rising:
        rising = False
        for low, first, high, second, growing in all_steps:
            least = found[(low, first)] + (1 if growing else 0)
            if found[(high, second)] < least:
                found[(high, second)] = least
                rising = True
    return tuple([tuple([found[(number, at)] for at in range(len(row[0]))]) for number, row in enumerate(table)])


def check_tame(table):
    """Raise NotTame if a table is not tame."""
    if growing_ring_of(table) is not None:
        raise NotTame("the table is not tame")


def place_of_step(table, step):
    """A tuple (number, place) of a super of the class of a step, and of a part in it that gives the step."""
    for number, shape in enumerate(table[step[0]][1]):
        for place, part in parts_of(shape):
            if step in steps_within(step[0], part):
                return (number, place)
    return None


def road_of_step(table, step, shape):
    """The types that a type of the class of a step passes on its way along the step, without itself."""
    number, place = place_of_step(table, step)
    found = [direct_supertypes(table, shape)[number]]
    for argument in place:
        found.append(found[-1][1 + argument])
    return found


def steps(table):
    """The ascending list of the steps, each once."""
    check_table(table)
    return steps_of(table)


def growing_ring(table):
    """Any ring of steps with a growing one, or None."""
    check_table(table)
    return growing_ring_of(table)


def levels(table):
    """The least levels, or None if the table is not tame."""
    check_table(table)
    return levels_of(table)


def road(table, number):
    """Any road to a type with at least this depth, or None if the table is tame."""
    check_table(table)
    if not is_number(number, 0, MOST_DEPTH):
        raise InvalidNumber("this is not an integer from 0 to 30")
    circle = growing_ring_of(table)
    if circle is None:
        return None
    found = [open_shape(table, circle[0][0])]
    done = 0
    while depth_of(found[-1]) < number:
        found.extend(road_of_step(table, circle[done % len(circle)], found[-1]))
        done += 1
    return found
