"""Features: pairs of a tuple of attributes and a tuple of vertices, each (x, y).

Nothing in a feature can be changed in place, so that versions may share it:
a commit keeps what it had, whatever becomes of the working version.
"""

from plotversions.limits import GREATEST_ATTRIBUTE, GREATEST_COORDINATE, GREATEST_VERTEX_COUNT
from plotversions.writing import counted


def is_attribute(value):
    return -GREATEST_ATTRIBUTE <= value <= GREATEST_ATTRIBUTE


def is_coordinate(value):
    return -GREATEST_COORDINATE <= value <= GREATEST_COORDINATE


def are_attributes(values, attribute_count):
    return len(values) == attribute_count and all([is_attribute(value) for value in values])


def are_vertices(coordinates):
    if len(coordinates) % 2 == 1:
        return False
    if not 1 <= len(coordinates) // 2 <= GREATEST_VERTEX_COUNT:
        return False
    return all([is_coordinate(value) for value in coordinates])


def make_feature(attributes, coordinates):
    vertices = [(coordinates[at], coordinates[at + 1]) for at in range(0, len(coordinates), 2)]
    return tuple(attributes), tuple(vertices)


def with_attribute(feature, index, value):
    attributes, vertices = feature
    return attributes[:index] + (value,) + attributes[index + 1:], vertices


def with_moved_vertex(feature, index, vertex):
    attributes, vertices = feature
    return attributes, vertices[:index] + (vertex,) + vertices[index + 1:]


def with_inserted_vertex(feature, index, vertex):
    attributes, vertices = feature
    return attributes, vertices[:index] + (vertex,) + vertices[index:]


def without_vertex(feature, index):
    attributes, vertices = feature
    return attributes, vertices[:index] + vertices[index + 1:]


def written_feature(feature):
    attributes, vertices = feature
    return [len(attributes)] + list(attributes) + counted(vertices)
