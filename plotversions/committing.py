"""The calls that move between the working version and the commits: commit, discard, reset_branch."""

from plotversions.limits import GREATEST_COMMIT_COUNT, IN_USE, MISSING, NO_CHANGE, TOO_MANY
from plotversions.versions import changed_ids


def commit(store, given):
    if not store.is_changed():
        return [NO_CHANGE]
    if len(store.commits) >= GREATEST_COMMIT_COUNT:
        return [TOO_MANY]
    return [store.make_commit([store.head()], store.working)]


def discard(store, given):
    lost = changed_ids(store.head_version(), store.working)
    store.take_head_version()
    return [len(lost)]


def reset_branch(store, given):
    number = given[0]
    if number not in store.commits:
        return [MISSING]
    if store.is_changed():
        return [IN_USE]
    previous = store.head()
    store.move_head(number)
    return [previous]
