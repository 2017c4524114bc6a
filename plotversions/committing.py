"""The calls that move between the working version and the commits, and that remove commits."""

from plotversions.history import reachable
from plotversions.limits import IN_USE, MISSING, NO_CHANGE, TOO_MANY
from plotversions.versions import changed_ids


def commit(store, given):
    if not store.is_changed():
        return [NO_CHANGE]
    if store.is_full():
        return [TOO_MANY]
    return [store.make_commit([store.head()], store.working)]


def discard(store, given):
    lost = changed_ids(store.head_version(), store.working)
    store.take_head_version()
    return [len(lost)]


def reset_branch(store, given):
    number = given[0]
    if number not in store.commits:
        return [MISSING]
    if store.is_changed():
        return [IN_USE]
    previous = store.head()
    store.move_head(number)
    return [previous]


def collect_garbage(store, given):
    kept = reachable(store.commits, store.named_commits())
    removed = [number for number in store.commits if number not in kept]
    for number in removed:
        store.commits.pop(number)
    return [len(removed)]
