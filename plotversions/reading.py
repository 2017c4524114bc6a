"""The calls that only read what is there: get_feature, list_features, get_state."""

from plotversions.features import written_feature
from plotversions.limits import MISSING
from plotversions.writing import counted


def get_feature(store, given):
    number, feature_id = given
    version = store.version_of(number)
    if version is None or feature_id not in version:
        return [MISSING]
    return [0] + written_feature(version[feature_id])


def list_features(store, given):
    version = store.version_of(given[0])
    if version is None:
        return [MISSING]
    return [len(version)] + sorted(version)


def get_state(store, given):
    changed = 1 if store.is_changed() else 0
    state = [store.attribute_count, store.commit_count, store.current_branch, store.head(), changed]
    return state + counted(sorted(store.branches.items())) + counted(sorted(store.tags.items()))
