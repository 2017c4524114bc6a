"""What a store holds: its commits, its names for them, and its working version."""

from plotversions.limits import WORKING_VERSION


class Commit:
    def __init__(self, parents, version):
        self.parents = parents
        self.version = version


class Store:
    def __init__(self, attribute_count):
        self.attribute_count = attribute_count
        self.commits = {0: Commit([], {})}
        self.branches = {0: 0}
        self.current_branch = 0
        self.tags = {}
        self.working = {}

    def head(self):
        return self.branches[self.current_branch]

    def head_version(self):
        return self.commits[self.head()].version

    def is_changed(self):
        return self.working != self.head_version()

    # Answers None where there is no such version; what it answers is to be read only.
    def version_of(self, number):
        if number == WORKING_VERSION:
            return self.working
        if number in self.commits:
            return self.commits[number].version
        return None

    def make_commit(self, parents, version):
        number = len(self.commits)
        self.commits[number] = Commit(parents, version)
        self.move_head(number)
        return number

    def move_head(self, number):
        self.branches[self.current_branch] = number
        self.take_head_version()

    # A copy, because the working version is changed in place, and a commit's version never.
    def take_head_version(self):
        self.working = dict(self.head_version())
