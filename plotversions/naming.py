"""The calls on names for commits: the branches and the tags."""

from plotversions.limits import GREATEST_BRANCH_COUNT, GREATEST_TAG_COUNT, IN_USE, MISSING, NAME_TAKEN, TOO_MANY


def create_branch(store, given):
    branch = given[0]
    if branch in store.branches:
        return [NAME_TAKEN]
    if len(store.branches) >= GREATEST_BRANCH_COUNT:
        return [TOO_MANY]
    store.branches[branch] = store.head()
    return [store.head()]


def switch_branch(store, given):
    branch = given[0]
    if branch not in store.branches:
        return [MISSING]
    if store.is_changed():
        return [IN_USE]
    store.current_branch = branch
    store.take_head_version()
    return [store.head()]


def delete_branch(store, given):
    branch = given[0]
    if branch not in store.branches:
        return [MISSING]
    if branch == store.current_branch:
        return [IN_USE]
    store.branches.pop(branch)
    return [len(store.branches)]


def set_tag(store, given):
    tag, number = given
    if number not in store.commits:
        return [MISSING]
    is_replaced = tag in store.tags
    if not is_replaced and len(store.tags) >= GREATEST_TAG_COUNT:
        return [TOO_MANY]
    store.tags[tag] = number
    return [1 if is_replaced else 0]


def delete_tag(store, given):
    tag = given[0]
    if tag not in store.tags:
        return [MISSING]
    return [store.tags.pop(tag)]
