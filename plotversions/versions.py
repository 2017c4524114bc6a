"""Versions: dicts of features by their ids. A commit's version is never changed, only copied."""

ADDED = 1
REMOVED = 2
CHANGED = 3

VERTICES_PART = 1024


def changed_ids(first, second):
    every_id = sorted(set(first) | set(second))
    return [feature_id for feature_id in every_id if first.get(feature_id) != second.get(feature_id)]


def changes(first, second):
    ids = changed_ids(first, second)
    return [change_of(feature_id, first.get(feature_id), second.get(feature_id)) for feature_id in ids]


def change_of(feature_id, before, after):
    if before is None:
        return feature_id, ADDED, 0
    if after is None:
        return feature_id, REMOVED, 0
    return feature_id, CHANGED, changed_parts(before, after)


def changed_parts(before, after):
    parts = 0
    for index, value in enumerate(before[0]):
        if value != after[0][index]:
            parts += 1 << index
    if before[1] != after[1]:
        parts += VERTICES_PART
    return parts
