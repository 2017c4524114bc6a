"""Lists of 256 calls over 40 commits of 16 features with 8 attributes and 12 vertices: each query, all over them."""

import unittest

from helper import WORKING, StoreTest, ask, change_between, coordinates
from helper import commit_hash_by_hand, diff_by_hand, match_by_hand, written_hash

ANY = 4294967295


class History:
    """Commits 1 to 19 on branch 0, 20 to 38 on branch 5, and 39, which merges them; all of them have 16 features."""

    def __init__(self):
        self.versions, self.parents = [{}], [()]
        first = {number: self.feature(number, 0) for number in range(16)}
        self.calls = [("create", 8), *change_between({}, first), ("commit",), ("create_branch", 5)]
        self.record(first, 0)
        for number in range(2, 20):
            self.change(number, number - 1, number % 8)
        self.calls.append(("switch_branch", 5))
        for number in range(20, 39):
            self.change(number, number - 1 if number > 20 else 1, 8 + number % 8)
        ours, theirs = self.versions[38], self.versions[19]
        self.calls.append(("merge", 0))
        self.record({number: (theirs if number < 8 else ours)[number] for number in range(16)}, 38, 19)

    def feature(self, number, value):
        attributes = [1000000000 - value - index if index % 2 else -1000000000 + value + index for index in range(8)]
        shift = 900000 if number % 2 else -900000
        return attributes, [shift + number * 300 + value + coordinate for coordinate in coordinates(12)]

    def change(self, number, parent, feature):
        version = dict(self.versions[parent])
        attributes, vertices = version[feature]
        if number % 3 == 0:
            version[feature] = (attributes[:7] + [number], vertices)
        elif number % 3 == 1:
            version[feature] = (attributes, vertices[:22] + [number, -number])
        else:
            version[feature] = self.feature(feature, number)
        self.calls += [*change_between(self.versions[parent], version), ("commit",)]
        self.record(version, parent)

    def record(self, version, *parents):
        self.versions.append(version)
        self.parents.append(parents)

    def ancestors(self, number):
        found = {number}
        for parent in self.parents[number]:
            found |= self.ancestors(parent)
        return found

    def hashes(self):
        found = []
        for version, parents in zip(self.versions, self.parents):
            found.append(commit_hash_by_hand(version, *[found[parent] for parent in parents]))
        return found

    def origin(self, number, value_of):
        for parent in self.parents[number]:
            if value_of(self.versions[parent]) == value_of(self.versions[number]):
                return self.origin(parent, value_of)
        return number


HISTORY = History()
PAIRS = [(first, second) for first in range(40) for second in range(40)]


class Large(StoreTest):
    def check(self, due):
        """All these calls with their answers, in lists of 256 calls each, behind the same history."""
        room = 256 - len(HISTORY.calls)
        for start in range(0, len(due), room):
            part = due[start:start + room]
            filled = part + [(("get_state",), STATE)] * (room - len(part))
            calls = HISTORY.calls + [call for call, answer in filled]
            self.assertEqual(len(calls), 256)
            for (call, answer), given in zip(filled, ask(calls)[len(HISTORY.calls):], strict=True):
                self.assertEqual(given, answer, call)

    def test_history_is_as_large_as_can_be(self):
        self.assertEqual(len(HISTORY.versions), 40)
        self.assertEqual(ask(HISTORY.calls)[-1], [2, 39, 0])
        self.assertTrue(all(len(version) == 16 for version in HISTORY.versions[1:]))

    def test_get_feature_and_list_features(self):
        due = []
        for number, version in enumerate(HISTORY.versions):
            due.append((("list_features", number), [len(version), *sorted(version)]))
            for feature, (attributes, vertices) in version.items():
                due.append((("get_feature", number, feature), [0, 8, *attributes, 12, *vertices]))
        self.check(due)

    def test_diff_and_working_diff(self):
        versions = HISTORY.versions
        due = [(("diff", *pair), diff_by_hand(versions[pair[0]], versions[pair[1]])) for pair in PAIRS]
        due += [(("diff", number, WORKING), diff_by_hand(versions[number], versions[39])) for number in range(40)]
        self.check(due + [(("working_diff",), [0])])

    def test_log_and_common_ancestor(self):
        found = [HISTORY.ancestors(number) for number in range(40)]
        due = [(("log", number), [len(found[number]), *sorted(found[number], reverse=True)]) for number in range(40)]
        self.check(due + [(("common_ancestor", *pair), [max(found[pair[0]] & found[pair[1]])]) for pair in PAIRS])

    def test_hash(self):
        self.check([(("hash", number), written_hash(value)) for number, value in enumerate(HISTORY.hashes())] * 6)

    def test_origins(self):
        due = []
        for feature in range(16):
            for index in range(8):
                origin = HISTORY.origin(39, lambda version: version[feature][0][index] if version else None)
                due.append((("origin_of_attribute", feature, index), [origin]))
            origin = HISTORY.origin(39, lambda version: version[feature][1] if version else None)
            due.append((("origin_of_vertices", feature), [origin]))
        self.assertGreater(len({answer[0] for call, answer in due}), 20)
        self.check(due)

    def test_match_features(self):
        due = []
        for first, second in [(0, 39), (39, 0), (39, 39)] + PAIRS[50::60]:
            for tolerance in (0, 20, 5000, 1800000, ANY):
                answer = match_by_hand(HISTORY.versions[first], HISTORY.versions[second], tolerance)
                due.append((("match_features", first, second, tolerance), answer))
        self.check(due)

    def test_merges_reverts_and_garbage(self):
        due = [(("merge", 0), [0, 39]), (("merge_with", 5, 1), [0, 39]), (("collect_garbage",), [0])]
        due += [(("revert", 39), [-33]), (("revert", 38), [-28])]
        due += [(("cherry_pick", number), [-6]) for number in (37, 38)]
        self.check(due)

    def test_the_40_commits_as_garbage(self):
        more = [("reset_branch", 0), ("delete_branch", 0), ("collect_garbage",), ("get_state",)]
        more += [("hash", number) for number in range(1, 40)]
        answered = ask(HISTORY.calls + more)[len(HISTORY.calls):]
        self.assertEqual(answered, [[39], [1], [39], [8, 40, 5, 0, 0, 1, 5, 0, 0]] + [[-2]] * 39)


STATE = [8, 40, 5, 39, 0, 2, 0, 19, 5, 39, 0]


if __name__ == "__main__":
    unittest.main()
