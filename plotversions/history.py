"""What can be told from the parents of commits: ancestors and origins."""


# In descending order.
def ancestors(commits, number):
    found = {number: True}
    waiting = [number]
    while waiting:
        current = commits[waiting.pop()]
        for parent in current.parents:
            if parent not in found:
                found[parent] = True
                waiting.append(parent)
    return sorted(found, reverse=True)


# There always is one, because commit 0 is an ancestor of every commit.
def greatest_common_ancestor(commits, first, second):
    known = ancestors(commits, first)
    return max([number for number in ancestors(commits, second) if number in known])


def reachable(commits, starts):
    found = {}
    for start in starts:
        for number in ancestors(commits, start):
            found[number] = True
    return found


# has_value tells of a version whether the value whose origin is asked stands in it.
def origin(commits, number, has_value):
    found = number
    parent = first_parent_with(commits, found, has_value)
    while parent is not None:
        found = parent
        parent = first_parent_with(commits, found, has_value)
    return found


def first_parent_with(commits, number, has_value):
    for parent in commits[number].parents:
        if has_value(commits[parent].version):
            return parent
    return None
