"""The calls that make a commit by a three-way merge: merge, merge_with, revert, cherry_pick."""

from plotversions.history import ancestors, greatest_common_ancestor
from plotversions.limits import CONFLICTS, GREATEST_FEATURE_COUNT, IN_USE, MISSING, NO_CHANGE, NOT_THE_RIGHT_COUNT
from plotversions.limits import OUT_OF_RANGE, TOO_MANY
from plotversions.merging import OURS, THEIRS, merge_versions
from plotversions.writing import counted

NOTHING_NEW = 0
MOVED_ON = 1
NEW_COMMIT = 2


def merge(store, given):
    return merge_branch(store, given[0], None)


def merge_with(store, given):
    branch, side = given
    if side > THEIRS:
        return [OUT_OF_RANGE]
    return merge_branch(store, branch, side)


# Where side is None, conflicts are not decided but refused.
def merge_branch(store, branch, side):
    if branch not in store.branches:
        return [MISSING]
    if store.is_changed():
        return [IN_USE]
    head = store.head()
    number = store.branches[branch]
    if number in ancestors(store.commits, head):
        return [NOTHING_NEW, head]
    if head in ancestors(store.commits, number):
        store.move_head(number)
        return [MOVED_ON, number]
    return merge_commit(store, number, side)


def merge_commit(store, number, side):
    head = store.head()
    base = version_in(store, greatest_common_ancestor(store.commits, head, number))
    decided = OURS if side is None else side
    version, conflicts = merge_versions(base, store.head_version(), version_in(store, number), decided)
    if conflicts and side is None:
        return [CONFLICTS] + counted(conflicts)
    if has_no_room(store, version):
        return [TOO_MANY]
    return [NEW_COMMIT, store.make_commit([head, number], version), len(conflicts)]


def revert(store, given):
    return apply_commit(store, given[0], version_in, parent_version)


def cherry_pick(store, given):
    return apply_commit(store, given[0], parent_version, version_in)


# base_of and theirs_of tell which versions of the commit are merged with that of the head.
def apply_commit(store, number, base_of, theirs_of):
    if number not in store.commits:
        return [MISSING]
    if len(store.commits[number].parents) != 1:
        return [NOT_THE_RIGHT_COUNT]
    if store.is_changed():
        return [IN_USE]
    ours = store.head_version()
    version, conflicts = merge_versions(base_of(store, number), ours, theirs_of(store, number), OURS)
    if conflicts:
        return [CONFLICTS] + counted(conflicts)
    if version == ours:
        return [NO_CHANGE]
    if has_no_room(store, version):
        return [TOO_MANY]
    return [store.make_commit([store.head()], version)]


def version_in(store, number):
    return store.commits[number].version


def parent_version(store, number):
    return version_in(store, store.commits[number].parents[0])


def has_no_room(store, version):
    return len(version) > GREATEST_FEATURE_COUNT or store.is_full()
