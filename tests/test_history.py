"""log, common_ancestor, origin_of_attribute and origin_of_vertices."""

import unittest

from helper import GREATEST_NAME, WORKING, StoreTest, ask, ask_last

# Commits 2 and 4 on branch 0, commit 3 on branch 5, commit 5 is the merge of 4 with 3, and 6 goes on from it; commit 7
# goes on from 3. The branch 0 refers to 6, and 5, the current one, to 7.
WOVEN = [
    ("create", 2), ("put_feature", 7, [1, 2], [0, 0, 4, 0]), ("commit",), ("create_branch", 5),
    ("set_attribute", 7, 0, 12), ("commit",), ("switch_branch", 5), ("set_attribute", 7, 1, 13), ("commit",),
    ("switch_branch", 0), ("move_vertex", 7, 0, 4, 4), ("commit",), ("merge", 5), ("put_feature", 8, [6, 6], [0, 0]),
    ("commit",), ("switch_branch", 5), ("put_feature", 9, [7, 7], [0, 0]), ("commit",),
]
ANCESTORS = {
    0: [0], 1: [1, 0], 2: [2, 1, 0], 3: [3, 1, 0], 4: [4, 2, 1, 0], 5: [5, 4, 3, 2, 1, 0], 6: [6, 5, 4, 3, 2, 1, 0],
    7: [7, 3, 1, 0],
}
# Commit 2 sets attribute 0 of feature 7, which commit 1 has added.
TWICE = [
    ("create", 2), ("put_feature", 7, [1, 2], [0, 0]), ("commit",), ("set_attribute", 7, 0, 9), ("commit",),
]
NO_COMMIT = (8, 9, 40, 4294967294, WORKING)


def two_sides(first, second, before=()):
    """A session that merges branch 5, on which `second` was done, into branch 0, on which `first` was done."""
    calls = [("create", 2), *before, ("put_feature", 7, [1, 2], [0, 0, 4, 0]), ("commit",), ("create_branch", 5)]
    calls += [*first, ("commit",), ("switch_branch", 5), *second, ("commit",), ("switch_branch", 0)]
    return calls + [("merge", 5)]


class Log(StoreTest):
    def test_ancestors_behind_a_merge(self):
        for number, found in ANCESTORS.items():
            self.assertEqual(ask_last(WOVEN + [("log", number)]), [len(found)] + found)

    def test_commit_0_of_an_empty_store(self):
        self.assertEqual(ask_last([("create", 0), ("log", 0)]), [1, 0])

    def test_no_such_commit(self):
        for number in NO_COMMIT:
            self.check_refused(WOVEN, ("log", number), -2)

    def test_a_long_history(self):
        calls = [("create", 1)]
        for value in range(39):
            calls += [("put_feature", 7, [value], [0, 0]), ("commit",)]
        self.assertEqual(ask_last(calls + [("log", 39)]), [40, *reversed(range(40))])

    def test_each_ancestor_once_behind_many_merges(self):
        calls = [("create", 1), ("put_feature", 7, [0], [0, 0]), ("commit",), ("create_branch", 5)]
        for value in range(12):
            calls += [("put_feature", 7, [value + 1], [0, 0]), ("commit",), ("switch_branch", 5)]
            calls += [("put_feature", 8, [value + 1], [0, 0]), ("commit",), ("merge", 0), ("switch_branch", 0)]
            calls += [("merge", 5)]
        self.assertEqual(ask(calls + [("log", 37)])[-2:], [[1, 37], [38, *reversed(range(38))]])

    def test_changes_nothing(self):
        self.check_no_change(WOVEN, [("log", 6), ("log", 0)])


class CommonAncestor(StoreTest):
    def test_all_pairs(self):
        for first, found in ANCESTORS.items():
            asked = [("common_ancestor", first, second) for second in ANCESTORS]
            due = [[max(set(found) & set(others))] for others in ANCESTORS.values()]
            self.assertEqual(ask(WOVEN + asked)[len(WOVEN):], due)

    def test_written_out(self):
        pairs = {(2, 3): 1, (3, 4): 1, (6, 7): 3, (5, 3): 3, (7, 2): 1, (6, 4): 4, (0, 6): 0, (6, 6): 6, (1, 0): 0}
        for (first, second), found in pairs.items():
            asked = [("common_ancestor", first, second), ("common_ancestor", second, first)]
            self.assertEqual(ask(WOVEN + asked)[-2:], [[found], [found]])

    def test_histories_that_meet_in_commit_0_alone(self):
        more = [("reset_branch", 0), ("put_feature", 1, [1, 1], [0, 0]), ("commit",), ("common_ancestor", 8, 6)]
        self.assertEqual(ask_last(WOVEN + more), [0])

    def test_no_such_commit(self):
        for number in NO_COMMIT:
            for asked in ((number, 1), (1, number), (number, number)):
                self.check_refused(WOVEN, ("common_ancestor", *asked), -2)

    def test_changes_nothing(self):
        self.check_no_change(WOVEN, [("common_ancestor", 6, 7)])


class Origins(StoreTest):
    def check_origins(self, calls, first, second, vertices):
        """The origins of both attributes and of the vertices of feature 7 in the head."""
        asked = [("origin_of_attribute", 7, 0), ("origin_of_attribute", 7, 1), ("origin_of_vertices", 7)]
        self.assertEqual(ask(calls + asked)[-3:], [[first], [second], [vertices]])

    def test_commits_one_behind_another(self):
        calls = [("create", 2), ("put_feature", 7, [1, 2], [0, 0]), ("commit",)]
        self.check_origins(calls, 1, 1, 1)
        calls += [("set_attribute", 7, 1, 3), ("commit",)]
        self.check_origins(calls, 1, 2, 1)
        calls += [("insert_vertex", 7, 1, 3, 3), ("put_feature", 8, [1, 2], [0, 0]), ("commit",)]
        self.check_origins(calls, 1, 2, 3)
        calls += [("set_attribute", 7, 0, 8), ("commit",)]
        self.check_origins(calls, 4, 2, 3)
        self.check_origins(calls + [("reset_branch", 2)], 1, 2, 1)

    def test_value_that_comes_back(self):
        self.check_origins(TWICE + [("set_attribute", 7, 0, 1), ("commit",)], 3, 1, 1)
        self.check_origins(TWICE + [("revert", 2)], 3, 1, 1)

    def test_feature_that_comes_back(self):
        # The parent doesn't have the feature: so all of it begins anew, though nothing in it is new.
        calls = [("create", 2), ("put_feature", 7, [1, 2], [0, 0]), ("commit",), ("remove_feature", 7), ("commit",)]
        self.check_origins(calls + [("put_feature", 7, [1, 2], [0, 0]), ("commit",)], 3, 3, 3)
        self.check_origins(calls + [("revert", 2)], 3, 3, 3)

    def test_through_a_merge_by_the_parent_that_has_the_value(self):
        calls = two_sides([("set_attribute", 7, 0, 8)], [("set_attribute", 7, 1, 9), ("move_vertex", 7, 0, 1, 1)])
        self.check_origins(calls, 2, 3, 3)
        calls = two_sides([("set_attribute", 7, 1, 9), ("move_vertex", 7, 0, 1, 1)], [("set_attribute", 7, 0, 8)])
        self.check_origins(calls, 3, 2, 2)

    def test_through_a_merge_by_the_first_of_two_parents(self):
        same = [("set_attribute", 7, 0, 8), ("move_vertex", 7, 0, 1, 1)]
        other = [("put_feature", 9, [0, 0], [0, 0])]
        calls = two_sides(same, same + other)
        self.check_origins(calls, 2, 1, 2)
        # From the other side, commit 3 is the head, and so the first parent.
        self.check_origins(calls[:-2] + [("merge", 0)], 3, 1, 3)

    def test_through_a_merge_that_made_a_value_of_its_own(self):
        calls = two_sides([("move_vertex", 7, 0, 1, 1)], [("move_vertex", 7, 1, 2, 2)])
        self.check_origins(calls, 1, 1, 4)

    def test_through_a_merge_and_on(self):
        calls = two_sides([("set_attribute", 7, 0, 8)], [("set_attribute", 7, 1, 9)])
        calls += [("move_vertex", 7, 0, 6, 6), ("commit",), ("put_feature", 8, [0, 0], [0, 0]), ("commit",)]
        self.check_origins(calls, 2, 3, 5)

    def test_through_two_merges(self):
        calls = two_sides([("set_attribute", 7, 0, 8)], [("set_attribute", 7, 1, 9)])
        calls += [("switch_branch", 5), ("move_vertex", 7, 1, 6, 6), ("commit",), ("switch_branch", 0), ("merge", 5)]
        self.check_origins(calls, 2, 3, 5)

    def test_feature_that_only_the_second_parent_has(self):
        calls = two_sides([("set_attribute", 7, 0, 8)], [("put_feature", 9, [5, 6], [1, 1])])
        asked = [("origin_of_attribute", 9, 0), ("origin_of_attribute", 9, 1), ("origin_of_vertices", 9)]
        self.assertEqual(ask(calls + asked)[-3:], [[3], [3], [3]])

    def test_first_such_parent_even_if_the_second_has_an_older_one(self):
        # Branch 0 sets the value anew to what branch 5 has had all the time.
        first = [("set_attribute", 7, 0, 8), ("commit",), ("set_attribute", 7, 0, 1)]
        calls = two_sides(first, [("set_attribute", 7, 1, 9)])
        self.check_origins(calls, 3, 4, 1)
        self.check_origins(calls[:-2] + [("merge", 0)], 1, 4, 1)

    def test_ends_where_no_parent_has_the_feature(self):
        # Both sides have added feature 9 alike: their parent doesn't have it.
        added = [("put_feature", 9, [5, 6], [1, 1])]
        calls = two_sides(added, added + [("set_attribute", 7, 0, 8)])
        asked = [("origin_of_attribute", 9, 0), ("origin_of_attribute", 9, 1), ("origin_of_vertices", 9)]
        self.assertEqual(ask(calls + asked)[-3:], [[2], [2], [2]])

    def test_decided_for_either_side(self):
        calls = two_sides([("set_attribute", 7, 0, 8)], [("set_attribute", 7, 0, 9)])[:-1]
        self.check_origins(calls + [("merge_with", 5, 0)], 2, 1, 1)
        self.check_origins(calls + [("merge_with", 5, 1)], 3, 1, 1)

    def test_of_the_head_not_of_the_working_version(self):
        self.check_origins(TWICE + [("remove_feature", 7)], 2, 1, 1)
        self.check_origins(TWICE + [("put_feature", 7, [0, 0], [5, 5])], 2, 1, 1)

    def test_eight_attributes(self):
        calls = [("create", 8), ("put_feature", 7, [0] * 8, [0, 0]), ("commit",)]
        for index in range(8):
            calls += [("set_attribute", 7, index, index + 1), ("commit",)]
        asked = [("origin_of_attribute", 7, index) for index in range(8)]
        self.assertEqual(ask(calls + asked)[-8:], [[number] for number in range(2, 10)])

    def test_a_long_history(self):
        calls = [("create", 1), ("put_feature", 7, [1], [0, 0]), ("commit",)]
        for value in range(38):
            calls += [("put_feature", 8, [value], [0, 0]), ("commit",)]
        asked = [("origin_of_attribute", 7, 0), ("origin_of_vertices", 7), ("origin_of_attribute", 8, 0)]
        self.assertEqual(ask(calls + asked + [("origin_of_vertices", 8)])[-4:], [[1], [1], [39], [2]])

    def test_no_such_feature(self):
        # Feature 9 is in the working version alone, feature 8 in a commit that isn't the head.
        before = WOVEN[:-1] + [("put_feature", 10, [7, 7], [0, 0])]
        for number in (0, 8, 9, 10, 65543, GREATEST_NAME):
            self.check_refused(before, ("origin_of_attribute", number, 0), -2)
            self.check_refused(before, ("origin_of_vertices", number), -2)
        self.check_refused([("create", 1)], ("origin_of_vertices", 7), -2)
        self.check_refused([("create", 1)], ("origin_of_attribute", 7, 0), -2)

    def test_no_such_attribute(self):
        for index in (2, 3, 8, GREATEST_NAME):
            self.check_refused(WOVEN, ("origin_of_attribute", 7, index), -2)
        before = [("create", 0), ("put_feature", 7, [], [0, 0]), ("commit",)]
        self.check_refused(before, ("origin_of_attribute", 7, 0), -2)
        self.assertEqual(ask_last(before + [("origin_of_vertices", 7)]), [1])

    def test_changes_nothing(self):
        self.check_no_change(WOVEN, [("origin_of_attribute", 7, 0), ("origin_of_vertices", 9)])


if __name__ == "__main__":
    unittest.main()
