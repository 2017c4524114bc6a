"""The calls that change the working version: put_feature to remove_vertex."""

from plotversions.features import are_attributes, are_vertices, is_attribute, is_coordinate, make_feature
from plotversions.features import with_attribute, with_inserted_vertex, with_moved_vertex, without_vertex
from plotversions.limits import GREATEST_FEATURE_COUNT, GREATEST_FEATURE_ID, GREATEST_VERTEX_COUNT
from plotversions.limits import MISSING, NOT_THE_RIGHT_COUNT, OUT_OF_RANGE, TOO_MANY


def put_feature(store, given):
    feature_id, attributes, coordinates = given
    if feature_id > GREATEST_FEATURE_ID:
        return [OUT_OF_RANGE]
    if not are_attributes(attributes, store.attribute_count) or not are_vertices(coordinates):
        return [OUT_OF_RANGE]
    is_replaced = feature_id in store.working
    if not is_replaced and len(store.working) >= GREATEST_FEATURE_COUNT:
        return [TOO_MANY]
    store.working[feature_id] = make_feature(attributes, coordinates)
    return [1 if is_replaced else 0]


def remove_feature(store, given):
    feature_id = given[0]
    if feature_id not in store.working:
        return [MISSING]
    store.working.pop(feature_id)
    return [len(store.working)]


def set_attribute(store, given):
    feature_id, index, value = given
    if feature_id not in store.working:
        return [MISSING]
    feature = store.working[feature_id]
    if index >= store.attribute_count:
        return [MISSING]
    if not is_attribute(value):
        return [OUT_OF_RANGE]
    store.working[feature_id] = with_attribute(feature, index, value)
    return [0, feature[0][index]]


def move_vertex(store, given):
    feature_id, index, x, y = given
    if feature_id not in store.working:
        return [MISSING]
    feature = store.working[feature_id]
    vertices = feature[1]
    if index >= len(vertices):
        return [MISSING]
    if not is_coordinate(x) or not is_coordinate(y):
        return [OUT_OF_RANGE]
    store.working[feature_id] = with_moved_vertex(feature, index, (x, y))
    return [0, vertices[index][0], vertices[index][1]]


def insert_vertex(store, given):
    feature_id, index, x, y = given
    if feature_id not in store.working:
        return [MISSING]
    feature = store.working[feature_id]
    vertex_count = len(feature[1])
    if index > vertex_count:
        return [MISSING]
    if not is_coordinate(x) or not is_coordinate(y):
        return [OUT_OF_RANGE]
    if vertex_count >= GREATEST_VERTEX_COUNT:
        return [TOO_MANY]
    store.working[feature_id] = with_inserted_vertex(feature, index, (x, y))
    return [vertex_count + 1]


def remove_vertex(store, given):
    feature_id, index = given
    if feature_id not in store.working:
        return [MISSING]
    feature = store.working[feature_id]
    vertex_count = len(feature[1])
    if index >= vertex_count:
        return [MISSING]
    if vertex_count == 1:
        return [NOT_THE_RIGHT_COUNT]
    store.working[feature_id] = without_vertex(feature, index)
    return [vertex_count - 1]
