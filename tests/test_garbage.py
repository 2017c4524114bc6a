"""collect_garbage, and what is answered behind it."""

import unittest

from helper import WORKING, StoreTest, ask, ask_last

# Commit 1 on both branches, 2 and 3 on branch 0, 4 and 5 on branch 5, the current one.
FORKED = [
    ("create", 1), ("put_feature", 7, [1], [0, 0]), ("commit",), ("create_branch", 5),
    ("set_attribute", 7, 0, 2), ("commit",), ("set_attribute", 7, 0, 3), ("commit",), ("switch_branch", 5),
    ("move_vertex", 7, 0, 4, 4), ("commit",), ("move_vertex", 7, 0, 5, 5), ("commit",),
]
COLLECT = ("collect_garbage",)
# Commits 2 and 3 are gone.
COLLECTED = FORKED + [("delete_branch", 0), COLLECT]
EVERY_NUMBER = range(7)


def listed(calls):
    """The numbers of the commits that are there."""
    answered = ask(calls + [("list_features", number) for number in range(41)])[len(calls):]
    return [number for number, answer in enumerate(answered) if answer != [-2]]


class CollectGarbage(StoreTest):
    def check_left(self, calls, removed, left):
        self.assertEqual(ask_last(calls + [COLLECT]), [removed])
        self.assertEqual(listed(calls + [COLLECT]), left)
        self.assertEqual(ask(calls + [COLLECT, COLLECT])[-2:], [[removed], [0]])
        self.assertEqual(listed(calls + [COLLECT, COLLECT]), left)

    def test_nothing_to_remove(self):
        self.check_left([("create", 0)], 0, [0])
        self.check_left(FORKED, 0, [0, 1, 2, 3, 4, 5])
        self.check_no_change(FORKED, [COLLECT])
        self.check_no_change(FORKED + [("remove_feature", 7)], [COLLECT, COLLECT])

    def test_commits_that_a_deleted_branch_had_kept(self):
        self.check_left(FORKED + [("delete_branch", 0)], 2, [0, 1, 4, 5])
        self.check_left(FORKED + [("switch_branch", 0), ("delete_branch", 5)], 2, [0, 1, 2, 3])

    def test_commits_that_a_reset_branch_had_kept(self):
        self.check_left(FORKED + [("reset_branch", 4)], 1, [0, 1, 2, 3, 4])
        self.check_left(FORKED + [("reset_branch", 1)], 2, [0, 1, 2, 3])
        self.check_left(FORKED + [("reset_branch", 0)], 2, [0, 1, 2, 3])
        self.check_left(FORKED + [("reset_branch", 2)], 2, [0, 1, 2, 3])
        self.check_left(FORKED + [("reset_branch", 0), ("delete_branch", 0)], 5, [0])

    def test_commits_that_a_deleted_tag_had_kept(self):
        before = FORKED + [("delete_branch", 0), ("set_tag", 9, 3)]
        self.check_left(before, 0, [0, 1, 2, 3, 4, 5])
        self.check_left(before + [("delete_tag", 9)], 2, [0, 1, 4, 5])
        self.check_left(before + [COLLECT, ("delete_tag", 9)], 2, [0, 1, 4, 5])

    def test_commits_that_a_replaced_tag_had_kept(self):
        before = FORKED + [("delete_branch", 0), ("set_tag", 9, 3)]
        self.check_left(before + [("set_tag", 9, 2)], 1, [0, 1, 2, 4, 5])
        self.check_left(before + [("set_tag", 9, 0)], 2, [0, 1, 4, 5])

    def test_commits_that_a_tag_keeps(self):
        before = FORKED + [("delete_branch", 0), ("reset_branch", 0)]
        self.check_left(before + [("set_tag", 9, 4)], 3, [0, 1, 4])
        self.check_left(before + [("set_tag", 9, 4), ("set_tag", 8, 3)], 1, [0, 1, 2, 3, 4])
        self.check_left(before + [("set_tag", 9, 4), ("set_tag", 8, 4), ("delete_tag", 8)], 3, [0, 1, 4])

    def test_commits_behind_the_second_parent_of_a_merge_stay(self):
        more = [("merge", 0), ("delete_branch", 0)]
        self.check_left(FORKED + more, 0, [0, 1, 2, 3, 4, 5, 6])
        self.check_left(FORKED + more + [("reset_branch", 5)], 3, [0, 1, 4, 5])
        self.check_left(FORKED + more + [("reset_branch", 3)], 3, [0, 1, 2, 3])
        self.check_left(FORKED + more + [("set_tag", 1, 6), ("reset_branch", 0)], 0, [0, 1, 2, 3, 4, 5, 6])

    def test_commits_behind_a_gap(self):
        # What is left has gaps in its numbers, and a later collection makes more of them.
        more = [("set_attribute", 7, 0, 8), ("commit",), ("create_branch", 0), ("reset_branch", 4)]
        self.check_left(COLLECTED + more, 0, [0, 1, 4, 5, 6])
        self.check_left(COLLECTED + more + [("delete_branch", 0)], 2, [0, 1, 4])

    def test_working_version_stays(self):
        before = FORKED + [("delete_branch", 0), ("put_feature", 8, [8], [8, 8])]
        later = [("list_features", WORKING), ("get_feature", WORKING, 8), ("working_diff",), ("commit",)]
        self.assertEqual(
            ask(before + [COLLECT] + later)[-5:], [[2], [2, 7, 8], [0, 1, 8, 1, 8, 8], [1, 8, 1, 0], [6]]
        )

    def test_39_commits(self):
        calls = [("create", 1), *[call for value in range(39) for call in add(value)], ("reset_branch", 0)]
        self.check_left(calls, 39, [0])
        self.check_left(calls + [("set_tag", 0, 38)], 1, list(range(39)))


def add(value):
    return [("put_feature", 7, [value], [0, 0]), ("commit",)]


class Behind(StoreTest):
    def test_removed_commits_are_named(self):
        for number in (2, 3):
            for call in (
                ("get_feature", number, 7), ("list_features", number), ("reset_branch", number), ("set_tag", 9, number),
                ("diff", number, 1), ("diff", 1, number), ("diff", WORKING, number), ("revert", number),
                ("cherry_pick", number), ("log", number), ("hash", number), ("common_ancestor", number, 1),
                ("common_ancestor", 5, number), ("match_features", number, 1, 9), ("match_features", 1, number, 9),
            ):
                self.check_refused(COLLECTED, call, -2)

    def test_new_commit_has_the_next_number(self):
        self.assertEqual(ask(COLLECTED + add(8) + [("log", 6)])[-2:], [[6], [5, 6, 5, 4, 1, 0]])
        # The commit with the greatest number is gone, and its number isn't used again, either.
        before = FORKED + [("reset_branch", 4), COLLECT]
        self.assertEqual(ask(before + add(8) + [("log", 6)])[-2:], [[6], [4, 6, 4, 1, 0]])
        self.assertEqual(listed(before + add(8)), [0, 1, 2, 3, 4, 6])

    def test_new_commit_of_every_kind_has_the_next_number(self):
        # Commits 2 and 3 stay on branch 0, and 5 is gone.
        before = FORKED + [("reset_branch", 4), COLLECT]
        for call, answer in (
            (("merge", 0), [2, 6, 0]), (("merge_with", 0, 1), [2, 6, 0]),
            (("revert", 4), [6]), (("cherry_pick", 2), [6]),
        ):
            self.assertEqual(ask_last(before + [call]), answer)
            self.assertEqual(ask_last(before + [call, ("list_features", 5)]), [-2])

    def test_get_state(self):
        self.assertEqual(ask_last(COLLECTED + [("get_state",)]), [1, 6, 5, 5, 0, 1, 5, 5, 0])
        more = [("reset_branch", 0), COLLECT, ("get_state",)]
        self.assertEqual(ask_last(COLLECTED + more), [1, 6, 5, 0, 0, 1, 5, 0, 0])
        self.assertEqual(ask_last(COLLECTED + more[:2] + add(8) + more[2:]), [1, 7, 5, 6, 0, 1, 5, 6, 0])

    def test_what_is_left_is_answered_as_before(self):
        asked = [("get_state",), ("working_diff",), ("origin_of_attribute", 7, 0), ("origin_of_vertices", 7)]
        for number in (0, 1, 4, 5):
            asked += [("log", number), ("hash", number), ("list_features", number), ("get_feature", number, 7)]
            asked += [("diff", number, other) for other in (0, 1, 4, 5, WORKING)]
            asked += [("common_ancestor", number, other) for other in (0, 1, 4, 5)]
            asked += [("match_features", number, WORKING, 3)]
        before = COLLECTED[:-1]
        self.assertEqual(ask(before + [COLLECT] + asked)[-len(asked):], ask(before + asked)[-len(asked):])

    def test_merges(self):
        # Branch 3 goes on from commit 4 with commit 6, and branch 5, the current one again, still refers to commit 5.
        more = [("create_branch", 3), ("switch_branch", 3), ("reset_branch", 4)]
        more += [("set_attribute", 7, 0, 8), ("commit",)]
        self.assertEqual(ask(COLLECTED + more + [("merge", 5), ("log", 7)])[-2:], [[2, 7, 0], [6, 7, 6, 5, 4, 1, 0]])
        back = [("switch_branch", 5), ("merge", 3), ("get_feature", 7, 7)]
        self.assertEqual(ask(COLLECTED + more + back)[-2:], [[2, 7, 0], [0, 1, 8, 1, 5, 5]])
        self.assertEqual(ask(COLLECTED + more[:3] + [("merge", 5), ("merge", 5)])[-2:], [[1, 5], [0, 5]])

    def test_40_commits_with_the_removed_ones_counted(self):
        calls = [("create", 1), *[call for value in range(39) for call in add(value)], ("reset_branch", 0), COLLECT]
        for value in range(3):
            self.check_refused(calls + [("put_feature", 7, [value], [0, 0])], ("commit",), -28)
        self.assertEqual(ask(calls + [("put_feature", 7, [0], [0, 0]), ("commit",), ("get_state",)])[-2:], [
            [-28], [1, 40, 0, 0, 1, 1, 0, 0, 0],
        ])

    def test_room_for_one_more(self):
        calls = [("create", 1), *[call for value in range(38) for call in add(value)], ("reset_branch", 0), COLLECT]
        self.assertEqual(ask(calls + add(5) + add(6))[-5:], [[38], [0], [39], [1], [-28]])

    def test_create_begins_anew(self):
        self.assertEqual(ask(COLLECTED + [("create", 1)] + add(5) + [("get_state",)])[-2:], [
            [1], [1, 2, 0, 1, 0, 1, 0, 1, 0],
        ])


if __name__ == "__main__":
    unittest.main()
