"""Finds out which features of two versions correspond, whatever their ids are."""

KEPT = 0
MOVED = 1
RESHAPED = 2


# Answers the pairs that are taken, in the order in which they are taken, as (first id, second id, way, distance).
def taken_pairs(first, second, tolerance):
    taken = []
    first_taken = {}
    second_taken = {}
    for way, distance, first_id, second_id in possible_pairs(first, second, tolerance):
        if first_id not in first_taken and second_id not in second_taken:
            first_taken[first_id] = True
            second_taken[second_id] = True
            taken.append((first_id, second_id, way, distance))
    return taken


# In the order in which they are to be taken.
def possible_pairs(first, second, tolerance):
    greatest = tolerance * tolerance
    possible = []
    for first_id, first_feature in first.items():
        for second_id, second_feature in second.items():
            way, distance = correspondence(first_feature[1], second_feature[1])
            if distance <= greatest:
                possible.append((way, distance, first_id, second_id))
    return sorted(possible)


def correspondence(first, second):
    if first == second:
        return KEPT, 0
    if is_moved(first, second):
        return MOVED, squared_distance(first[0], second[0])
    return RESHAPED, max(greatest_distance(first, second), greatest_distance(second, first))


def is_moved(first, second):
    if len(first) != len(second):
        return False
    x = second[0][0] - first[0][0]
    y = second[0][1] - first[0][1]
    return all([(before[0] + x, before[1] + y) == after for before, after in zip(first, second)])


def squared_distance(first, second):
    x = second[0] - first[0]
    y = second[1] - first[1]
    return x * x + y * y


# The greatest squared distance of a vertex of the first list from the nearest vertex of the second one.
def greatest_distance(first, second):
    return max([min([squared_distance(vertex, other) for other in second]) for vertex in first])
