"""What a store holds: its commits, its names for them, and its working version."""

from plotversions.hashing import commit_hash
from plotversions.limits import GREATEST_COMMIT_COUNT, WORKING_VERSION


class Commit:
    def __init__(self, parents, version, hash_value):
        self.parents = parents
        self.version = version
        self.hash_value = hash_value


class Store:
    def __init__(self, attribute_count):
        self.attribute_count = attribute_count
        self.commits = {0: Commit([], {}, commit_hash([], {}))}
        # Counts the removed commits, too: their numbers aren't used again.
        self.commit_count = 1
        self.branches = {0: 0}
        self.current_branch = 0
        self.tags = {}
        self.working = {}

    def head(self):
        return self.branches[self.current_branch]

    def head_version(self):
        return self.commits[self.head()].version

    def is_changed(self):
        return self.working != self.head_version()

    def is_full(self):
        return self.commit_count >= GREATEST_COMMIT_COUNT

    def named_commits(self):
        return list(self.branches.values()) + list(self.tags.values())

    # Answers None where there is no such version; what it answers is to be read only.
    def version_of(self, number):
        if number == WORKING_VERSION:
            return self.working
        if number in self.commits:
            return self.commits[number].version
        return None

    # The hash is computed here, where those of the parents are known, and not each time that it is asked for.
    def make_commit(self, parents, version):
        number = self.commit_count
        hash_value = commit_hash([self.commits[parent].hash_value for parent in parents], version)
        self.commits[number] = Commit(parents, version, hash_value)
        self.commit_count += 1
        self.move_head(number)
        return number

    def move_head(self, number):
        self.branches[self.current_branch] = number
        self.take_head_version()

    # A copy, because the working version is changed in place, and a commit's version never.
    def take_head_version(self):
        self.working = dict(self.head_version())
