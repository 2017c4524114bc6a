"""The three-way merge of versions.

Each conflict is decided in favor of a side on the way, and told all the same: who doesn't want it decided
throws the result away.
"""

OURS = 0
THEIRS = 1

REMOVED_AND_CHANGED = 1
ADDED_TWICE = 2
ATTRIBUTE = 3
VERTEX = 4
VERTICES = 5


# Answers the merged version, and the conflicts as (id, kind, index).
def merge_versions(base, ours, theirs, side):
    merged = {}
    conflicts = []
    for feature_id in sorted(set(base) | set(ours) | set(theirs)):
        feature, found = merge_feature(base.get(feature_id), ours.get(feature_id), theirs.get(feature_id), side)
        if feature is not None:
            merged[feature_id] = feature
        conflicts.extend([(feature_id, kind, index) for kind, index in found])
    return merged, conflicts


# None stands for a feature that isn't there. Answers the conflicts as (kind, index), as all below do.
def merge_feature(base, ours, theirs, side):
    is_merged, feature = merge_value(base, ours, theirs, side)
    if is_merged:
        return feature, []
    if base is None:
        return feature, [(ADDED_TWICE, 0)]
    if ours is None or theirs is None:
        return feature, [(REMOVED_AND_CHANGED, 0)]
    attributes, conflicts = merge_one_by_one(base[0], ours[0], theirs[0], side, ATTRIBUTE)
    vertices, more_conflicts = merge_vertices(base[1], ours[1], theirs[1], side)
    return (attributes, vertices), conflicts + more_conflicts


def merge_vertices(base, ours, theirs, side):
    is_merged, vertices = merge_value(base, ours, theirs, side)
    if is_merged:
        return vertices, []
    if len(base) == len(ours) and len(base) == len(theirs):
        return merge_one_by_one(base, ours, theirs, side, VERTEX)
    return vertices, [(VERTICES, 0)]


def merge_one_by_one(base, ours, theirs, side, kind):
    merged = []
    conflicts = []
    for index, before in enumerate(base):
        is_merged, value = merge_value(before, ours[index], theirs[index], side)
        merged.append(value)
        if not is_merged:
            conflicts.append((kind, index))
    return tuple(merged), conflicts


def merge_value(base, ours, theirs, side):
    if ours == theirs or base == theirs:
        return True, ours
    if base == ours:
        return True, theirs
    return False, (ours if side == OURS else theirs)
