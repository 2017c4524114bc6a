"""The calls that only read a version: get_feature and list_features."""

from plotversions.features import written_feature
from plotversions.limits import MISSING


def get_feature(store, given):
    number, feature_id = given
    version = store.version_of(number)
    if version is None or feature_id not in version:
        return [MISSING]
    return [0] + written_feature(version[feature_id])


def list_features(store, given):
    version = store.version_of(given[0])
    if version is None:
        return [MISSING]
    return [len(version)] + sorted(version)
