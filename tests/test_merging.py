"""merge and merge_with: their results, their errors and the order of these. The rest is in test_conflicts.py."""

import unittest

from helper import GREATEST_NAME, MERGED, WORKING, StoreTest, ask, ask_last, exchange, three_versions

# Branch 0 refers to commit 2, where the attribute is different, and branch 5, the current one, to commit 3, where the
# vertices are different.
FORKED = [
    ("create", 1), ("put_feature", 7, [1], [0, 0, 4, 0]), ("commit",), ("create_branch", 5),
    ("set_attribute", 7, 0, 2), ("commit",), ("switch_branch", 5), ("move_vertex", 7, 1, 4, 9), ("commit",),
]
# Branch 0 refers to commit 2, branch 5 to commit 3, and both have the attribute different from commit 1.
CLASHING = FORKED[:7] + [("set_attribute", 7, 0, 3), ("commit",)]
CHANGED = FORKED + [("set_attribute", 7, 0, 8)]
CLASHING_CHANGED = CLASHING + [("set_attribute", 7, 0, 8)]
# Branch 0 refers to commit 2, where a vertex has been inserted; branch 5 is the current one, and refers to commit 1.
APART = FORKED[:4] + [("insert_vertex", 7, 0, 5, 5), ("commit",), ("switch_branch", 5)]
NO_BRANCH = (1, 4, 6, GREATEST_NAME)


def both_ways(branch):
    """The three calls that merge a branch: what holds for each of them is asked of each."""
    return [("merge", branch), ("merge_with", branch, 0), ("merge_with", branch, 1)]


def up_to_40_commits(before):
    """Commits on the current branch, each with another attribute of feature 7, until there are 40."""
    made = 1 + sum(call[0] in ("commit", "merge") for call in before)
    more = [[("set_attribute", 7, 0, value), ("commit",)] for value in range(100, 140 - made)]
    return before + [call for pair in more for call in pair]


def features(numbers, attribute=0):
    return {number: ([attribute], [number, 0]) for number in numbers}


class NothingNew(StoreTest):
    def test_current_branch(self):
        for call in both_ways(5):
            self.assertEqual(ask_last(FORKED + [call]), [0, 3])

    def test_branch_at_an_ancestor_of_the_head(self):
        more = [("create_branch", 1), ("set_attribute", 7, 0, 5), ("commit",), ("set_attribute", 7, 0, 6), ("commit",)]
        for call in both_ways(1):
            self.assertEqual(ask_last(FORKED + more + [call]), [0, 5])

    def test_branch_at_commit_0(self):
        for call in both_ways(1):
            self.assertEqual(ask_last([("create", 0), ("create_branch", 1)] + [call]), [0, 0])
            self.assertEqual(ask_last([("create", 1), ("create_branch", 1)] + FORKED[1:] + [call]), [0, 3])

    def test_branch_that_has_been_merged(self):
        for call in both_ways(0):
            self.assertEqual(ask_last(FORKED + [("merge", 0), call]), [0, 4])

    def test_changes_nothing(self):
        for branch in (0, 5):
            self.check_no_change(FORKED + [("merge", 0)], both_ways(branch))

    def test_at_40_commits(self):
        for call in both_ways(5):
            self.assertEqual(ask_last(up_to_40_commits(FORKED) + [call]), [0, 39])


class MovedOn(StoreTest):
    def test_branch_ahead_of_the_head(self):
        before = FORKED[:6] + [("switch_branch", 5)]
        for call in both_ways(0):
            later = [call, ("get_feature", WORKING, 7), ("working_diff",), ("get_state",), ("list_features", 3)]
            self.assertEqual(
                ask(before + later)[-5:],
                [[1, 2], [0, 1, 2, 2, 0, 0, 4, 0], [0], [1, 3, 5, 2, 0, 2, 0, 2, 5, 2, 0], [-2]],
            )

    def test_behind_a_merge(self):
        for call in both_ways(5):
            later = [("merge", 0), ("switch_branch", 0), call, ("get_state",)]
            self.assertEqual(ask(FORKED + later)[-2:], [[1, 4], [1, 5, 0, 4, 0, 2, 0, 4, 5, 4, 0]])

    def test_edits_behind_it_leave_the_commit(self):
        more = [("switch_branch", 5), ("merge", 0), ("set_attribute", 7, 0, 9), ("get_feature", 2, 7)]
        self.assertEqual(ask_last(FORKED[:6] + more), [0, 1, 2, 2, 0, 0, 4, 0])

    def test_branch_that_was_merged_stays(self):
        more = [("switch_branch", 5), ("merge", 0), ("set_attribute", 7, 0, 9), ("commit",), ("switch_branch", 0)]
        self.assertEqual(ask(FORKED[:6] + more)[-4:], [[1, 2], [0, 2], [3], [2]])

    def test_at_40_commits(self):
        for call in both_ways(5):
            before = up_to_40_commits(FORKED[:4] + [("switch_branch", 5)]) + [("switch_branch", 0)]
            state = [1, 40, 0, 39, 0, 2, 0, 39, 5, 39, 0]
            self.assertEqual(ask(before + [call, ("get_state",)])[-2:], [[1, 39], state])


class NewCommit(StoreTest):
    def test_combines_both_sides(self):
        for call in both_ways(0):
            later = [call, ("get_feature", 4, 7), ("get_feature", WORKING, 7), ("working_diff",), ("get_state",)]
            merged = [0, 1, 2, 2, 0, 0, 4, 9]
            self.assertEqual(
                ask(FORKED + later)[-5:],
                [[2, 4, 0], merged, merged, [0], [1, 5, 5, 4, 0, 2, 0, 2, 5, 4, 0]],
            )

    def test_parents_are_the_head_and_the_commit_of_the_branch(self):
        # Both parents have both values: so their order shows in the origins.
        before = FORKED[:7] + [("set_attribute", 7, 0, 2), ("commit",)]
        later = [("log", 4), ("origin_of_attribute", 7, 0)]
        self.assertEqual(ask(before + [("merge", 0)] + later)[-3:], [[2, 4, 0], [5, 4, 3, 2, 1, 0], [3]])
        self.assertEqual(
            ask(before + [("switch_branch", 0), ("merge", 5)] + later)[-3:], [[2, 4, 0], [5, 4, 3, 2, 1, 0], [2]]
        )

    def test_made_even_if_the_version_is_that_of_the_head(self):
        before = FORKED[:7] + [("set_attribute", 7, 0, 2), ("commit",)]
        for call in both_ways(0):
            self.assertEqual(ask(before + [call, ("diff", 3, 4)])[-2:], [[2, 4, 0], [0]])

    def test_parents_stay(self):
        more = [("merge", 0), ("set_attribute", 7, 0, 9), ("remove_feature", 7)]
        later = [("get_feature", number, 7) for number in (1, 2, 3, 4)]
        self.assertEqual(
            ask(FORKED + more + later)[-4:],
            [[0, 1, 1, 2, 0, 0, 4, 0], [0, 1, 2, 2, 0, 0, 4, 0], [0, 1, 1, 2, 0, 0, 4, 9], [0, 1, 2, 2, 0, 0, 4, 9]],
        )

    def test_next_commit_goes_on_from_it(self):
        more = [("merge", 0), ("set_attribute", 7, 0, 9), ("commit",), ("log", 5), ("log", 2)]
        self.assertEqual(ask(FORKED + more)[-3:], [[5], [6, 5, 4, 3, 2, 1, 0], [3, 2, 1, 0]])

    def test_the_40th_commit(self):
        before = up_to_40_commits(APART)[:-2] + [("switch_branch", 0)]
        for call in both_ways(5):
            self.assertEqual(ask(before + [call, ("merge", 5)])[-2:], [[2, 39, 0], [0, 39]])

    def test_16_features(self):
        calls = three_versions(1, {}, features(range(8)), features(range(8, 16)))
        for call in both_ways(9):
            self.assertEqual(ask(calls + [call, ("list_features", MERGED)])[-2:], [[2, MERGED, 0], [16, *range(16)]])


class SeveralCommonAncestors(StoreTest):
    # Branches 0 and 5 have merged each other's commits 2 and 3: so 3 and 2 are both common ancestors of their commits
    # 4 and 5, and neither is an ancestor of the other one. Commit 3 has the attributes 1 and 3, and commit 2 2 and 1.
    CROSSED = [
        ("create", 2), ("put_feature", 7, [1, 1], [0, 0]), ("commit",), ("create_branch", 5),
        ("set_attribute", 7, 0, 2), ("commit",), ("create_branch", 6), ("switch_branch", 5),
        ("set_attribute", 7, 1, 3), ("commit",), ("switch_branch", 0), ("merge", 5), ("switch_branch", 5), ("merge", 6),
    ]
    # On branch 0, attribute 0 is 1 as in commit 3, on branch 5 attribute 1 is 5.
    GONE_ON = CROSSED + [
        ("set_attribute", 7, 1, 5), ("commit",), ("switch_branch", 0), ("set_attribute", 7, 0, 1), ("commit",),
    ]

    def test_what_stands_before_the_merge(self):
        later = [("get_feature", number, 7) for number in range(1, 8)] + [("common_ancestor", 4, 5)]
        values = [(1, 1), (2, 1), (1, 3), (2, 3), (2, 3), (2, 5), (1, 3)]
        features = [[0, 2, first, second, 1, 0, 0] for first, second in values]
        self.assertEqual(ask(self.GONE_ON + later)[-8:], features + [[3]])

    def test_base_is_the_one_with_the_greatest_number(self):
        for call in both_ways(5):
            later = [call, ("get_feature", 8, 7), ("log", 8)]
            self.assertEqual(
                ask(self.GONE_ON + later)[-3:], [[2, 8, 0], [0, 2, 2, 5, 1, 0, 0], [9, 8, 7, 6, 5, 4, 3, 2, 1, 0]]
            )

    def test_a_conflict_against_that_base(self):
        more = [("set_attribute", 7, 1, 6), ("commit",)]
        self.assertEqual(ask(self.GONE_ON + more + [("merge", 5)])[-2:], [[8], [-35, 1, 7, 3, 1]])


class Refused(StoreTest):
    def test_no_such_branch(self):
        for name in NO_BRANCH:
            for call in both_ways(name):
                self.check_refused(FORKED, call, -2)
        for call in both_ways(0):
            self.check_refused(FORKED + [("delete_branch", 0)], call, -2)

    def test_changed_working_version(self):
        for call in both_ways(0):
            self.check_refused(CHANGED, call, -16)
            self.assertEqual(ask_last(CHANGED + [("set_attribute", 7, 0, 1), call]), [2, 4, 0])

    def test_changed_working_version_where_nothing_is_to_be_merged(self):
        for call in both_ways(5):
            self.check_refused(CHANGED, call, -16)
        for call in both_ways(0):
            self.check_refused(FORKED[:6] + [("switch_branch", 5), ("remove_feature", 7)], call, -16)

    def test_conflicts(self):
        self.check_refused_with(CLASHING, ("merge", 0), [-35, 1, 7, 3, 0])
        for number in (0, 1):
            later = [("merge", 0), ("merge_with", 0, number)]
            self.assertEqual(ask(CLASHING + later)[-2:], [[-35, 1, 7, 3, 0], [2, 4, 1]])

    def test_17_features(self):
        calls = three_versions(1, {}, features(range(8)), features(range(8, 17)))
        for call in both_ways(9):
            self.check_refused(calls, call, -28)
        for call in both_ways(0):
            self.check_refused(exchange(calls), call, -28)

    def test_32_features(self):
        calls = three_versions(1, {}, features(range(16)), features(range(16, 32)))
        self.assertEqual(ask(calls + both_ways(9))[-3:], [[-28]] * 3)

    def test_sides_with_more_than_16_ids_but_not_the_result(self):
        ours = features([0, 2, *range(3, 16)])
        calls = three_versions(1, features(range(16)), ours, features([*range(1, 16), 16]))
        more = [("merge", 9), ("list_features", MERGED)]
        self.assertEqual(ask(calls + more)[-2:], [[2, MERGED, 0], [15, *range(2, 17)]])

    def test_decision_that_makes_room_or_not(self):
        # Feature 0 is removed on one side and changed on the other: the decision says whether there are 16 or 17.
        theirs = {**features([0], 1), **features(range(9, 17))}
        calls = three_versions(1, features([0]), features(range(1, 9)), theirs)
        self.assertEqual(ask_last(calls + [("merge_with", 9, 0)]), [2, MERGED, 1])
        self.check_refused(calls, ("merge_with", 9, 1), -28)
        self.assertEqual(ask_last(exchange(calls) + [("merge_with", 0, 1)]), [2, MERGED, 1])
        self.check_refused(exchange(calls), ("merge_with", 0, 0), -28)

    def test_40_commits(self):
        self.assertEqual(ask_last(up_to_40_commits(APART)), [39])
        for call in both_ways(0):
            self.check_refused(up_to_40_commits(APART), call, -28)
        for call in (("merge_with", 0, 0), ("merge_with", 0, 1)):
            self.check_refused(up_to_40_commits(CLASHING), call, -28)

    def test_side_beyond_1(self):
        for side in (2, 3, GREATEST_NAME):
            for branch in (0, 5):
                self.check_refused(FORKED, ("merge_with", branch, side), -22)


class OrderOfTheErrors(StoreTest):
    def test_side_first(self):
        self.check_refused(FORKED, ("merge_with", 6, 2), -22)
        self.check_refused(CHANGED, ("merge_with", 0, 2), -22)
        self.assertEqual(ask([("merge_with", 0, 2)]), [[-11]])

    def test_branch_before_the_changed_working_version(self):
        for call in both_ways(6):
            self.check_refused(CHANGED, call, -2)

    def test_changed_working_version_before_conflicts(self):
        self.check_refused(CLASHING_CHANGED, ("merge", 0), -16)

    def test_changed_working_version_before_room(self):
        calls = three_versions(1, {}, features(range(8)), features(range(8, 17))) + [("remove_feature", 1)]
        for call in both_ways(9):
            self.check_refused(calls, call, -16)
        full = up_to_40_commits(FORKED) + [("remove_feature", 7)]
        for call in both_ways(0):
            self.check_refused(full, call, -16)

    def test_conflicts_before_features(self):
        ours = {**features([0], 1), **features(range(1, 9))}
        theirs = {**features([0], 2), **features(range(9, 17))}
        calls = three_versions(1, features([0]), ours, theirs)
        self.check_refused_with(calls, ("merge", 9), [-35, 1, 0, 3, 0])
        self.assertEqual(ask(calls + [("merge_with", 9, 0), ("merge_with", 9, 1)])[-2:], [[-28], [-28]])

    def test_conflicts_before_commits(self):
        before = up_to_40_commits(CLASHING)
        self.check_refused_with(before, ("merge", 0), [-35, 1, 7, 3, 0])
        self.assertEqual(ask_last(before + [("merge_with", 0, 1)]), [-28])


if __name__ == "__main__":
    unittest.main()
