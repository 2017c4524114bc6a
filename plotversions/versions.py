"""Versions: dicts of features by their ids. A commit's version is never changed, only copied."""


def changed_ids(first, second):
    every_id = sorted(set(first) | set(second))
    return [feature_id for feature_id in every_id if first.get(feature_id) != second.get(feature_id)]
