"""The calls that ask for the history of commits and values: log, common_ancestor, the origins and the hash."""

from plotversions.history import ancestors, greatest_common_ancestor, origin
from plotversions.limits import MISSING


def log(store, given):
    number = given[0]
    if number not in store.commits:
        return [MISSING]
    found = ancestors(store.commits, number)
    return [len(found)] + found


def common_ancestor(store, given):
    first, second = given
    if first not in store.commits or second not in store.commits:
        return [MISSING]
    return [greatest_common_ancestor(store.commits, first, second)]


def origin_of_attribute(store, given):
    feature_id, index = given
    version = store.head_version()
    if feature_id not in version or index >= store.attribute_count:
        return [MISSING]
    value = version[feature_id][0][index]
    return [origin(store.commits, store.head(), lambda other: has_attribute(other, feature_id, index, value))]


def origin_of_vertices(store, given):
    feature_id = given[0]
    version = store.head_version()
    if feature_id not in version:
        return [MISSING]
    vertices = version[feature_id][1]
    return [origin(store.commits, store.head(), lambda other: has_vertices(other, feature_id, vertices))]


def has_attribute(version, feature_id, index, value):
    return feature_id in version and version[feature_id][0][index] == value


def has_vertices(version, feature_id, vertices):
    return feature_id in version and version[feature_id][1] == vertices


def hash_of_commit(store, given):
    number = given[0]
    if number not in store.commits:
        return [MISSING]
    high, low = divmod(store.commits[number].hash_value, 2 ** 32)
    return [0, high, low]
