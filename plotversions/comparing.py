"""The calls that compare two versions: diff, working_diff, match_features."""

from plotversions.limits import MISSING
from plotversions.matching import taken_pairs
from plotversions.versions import changes
from plotversions.writing import counted


def diff(store, given):
    first = store.version_of(given[0])
    second = store.version_of(given[1])
    if first is None or second is None:
        return [MISSING]
    return counted(changes(first, second))


def working_diff(store, given):
    return counted(changes(store.head_version(), store.working))


def match_features(store, given):
    first = store.version_of(given[0])
    second = store.version_of(given[1])
    if first is None or second is None:
        return [MISSING]
    pairs = taken_pairs(first, second, given[2])
    gone = ids_without(first, [pair[0] for pair in pairs])
    new = ids_without(second, [pair[1] for pair in pairs])
    return counted(pairs) + [len(gone)] + gone + [len(new)] + new


def ids_without(version, taken):
    return [feature_id for feature_id in sorted(version) if feature_id not in taken]
