"""commit, discard and reset_branch, and that a commit never changes."""

import unittest

from helper import UNUSED_NAME, WORKING, StoreTest, ask, ask_last

COMMITTED = [("create", 1), ("put_feature", 7, [1], [0, 0, 4, 0]), ("commit",)]
CHANGED = COMMITTED + [("set_attribute", 7, 0, 2)]
UNDONE = CHANGED + [("set_attribute", 7, 0, 1)]


def many_commits(count):
    """A store with `count` commits, commit 0 among them; commit n has n as the attribute of feature 7."""
    calls = [("create", 1), ("put_feature", 7, [1], [0, 0]), ("commit",)]
    for value in range(2, count):
        calls += [("set_attribute", 7, 0, value), ("commit",)]
    return calls


class Commit(StoreTest):
    def test_numbers_go_up_from_1(self):
        self.check_answers(
            (("create", 0), [0]),
            (("put_feature", 1, [], [0, 0]), [0]),
            (("commit",), [1]),
            (("put_feature", 2, [], [0, 0]), [0]),
            (("commit",), [2]),
            (("remove_feature", 1), [1]),
            (("commit",), [3]),
            (("list_features", 0), [0]),
            (("list_features", 1), [1, 1]),
            (("list_features", 2), [2, 1, 2]),
            (("list_features", 3), [1, 2]),
            (("list_features", WORKING), [1, 2]),
        )

    def test_head_moves_on(self):
        self.assertEqual(ask_last(CHANGED + [("commit",), ("create_branch", 5)]), [2])

    def test_only_the_current_branch_moves_on(self):
        more = [("set_attribute", 7, 0, 2), ("commit",), ("switch_branch", 5), ("switch_branch", 0)]
        self.assertEqual(ask(COMMITTED + [("create_branch", 5)] + more)[-3:], [[2], [1], [2]])

    def test_numbers_go_on_over_branches(self):
        more = [("commit",), ("reset_branch", 0), ("put_feature", 1, [3], [0, 0]), ("commit",)]
        self.assertEqual(ask(CHANGED + more)[-4:], [[2], [2], [0], [3]])

    def test_nothing_changed(self):
        self.check_refused([("create", 1)], ("commit",), -6)
        self.check_refused(COMMITTED, ("commit",), -6)

    def test_change_taken_back_is_no_change(self):
        self.check_refused(UNDONE, ("commit",), -6)
        more = [("remove_feature", 7), ("put_feature", 7, [1], [0, 0, 4, 0])]
        self.check_refused(COMMITTED + more, ("commit",), -6)
        more = [("insert_vertex", 7, 1, 5, 5), ("remove_vertex", 7, 1)]
        self.check_refused(COMMITTED + more, ("commit",), -6)
        more = [("put_feature", 8, [1], [0, 0]), ("remove_feature", 8)]
        self.check_refused(COMMITTED + more, ("commit",), -6)

    def test_order_of_edits_is_no_change(self):
        puts = [("put_feature", number, [], [number, 0]) for number in (5, 2, 9)]
        again = [("remove_feature", number) for number in (2, 5, 9)] + puts[::-1]
        self.check_refused([("create", 0)] + puts + [("commit",)] + again, ("commit",), -6)

    def test_each_kind_of_edit_is_a_change(self):
        edits = (
            ("put_feature", 8, [1], [0, 0]),
            ("put_feature", 7, [1], [0, 0]),
            ("put_feature", 7, [1], [4, 0, 0, 0]),
            ("remove_feature", 7),
            ("set_attribute", 7, 0, 2),
            ("move_vertex", 7, 0, 0, 1),
            ("insert_vertex", 7, 2, 0, 0),
            ("remove_vertex", 7, 1),
        )
        for edit in edits:
            self.assertEqual(ask_last(COMMITTED + [edit, ("commit",)]), [2], edit)

    def test_forty_commits_and_another(self):
        self.assertEqual(ask_last(many_commits(40)), [39])
        full = many_commits(40) + [("set_attribute", 7, 0, 40)]
        self.check_refused(full, ("commit",), -28)
        later = [("get_feature", WORKING, 7), ("discard",), ("get_feature", WORKING, 7), ("create_branch", 1)]
        self.assertEqual(ask(full + [("commit",)] + later)[-4:], [[0, 1, 40, 1, 0, 0], [1], [0, 1, 39, 1, 0, 0], [39]])

    def test_forty_commits_over_several_branches(self):
        calls = [("create", 1)]
        for number in range(1, 40):
            calls += [("put_feature", number, [1], [0, 0]), ("commit",), ("reset_branch", number // 2)]
        self.assertEqual(ask(calls)[-2], [39])
        self.assertEqual(ask_last(calls + [("put_feature", 99, [1], [0, 0]), ("commit",)]), [-28])

    def test_no_change_comes_before_no_room(self):
        self.check_refused(many_commits(40), ("commit",), -6)

    def test_commits_never_change(self):
        calls = many_commits(30)
        calls += [("reset_branch", 3), ("remove_feature", 7), ("discard",), ("move_vertex", 7, 0, 9, 9), ("commit",)]
        reads = [("get_feature", number, 7) for number in range(1, 30)]
        self.assertEqual(ask(calls + reads)[-29:], [[0, 1, number, 1, 0, 0] for number in range(1, 30)])

    def test_edits_of_every_kind_leave_the_commit(self):
        edits = [
            ("set_attribute", 7, 0, 9), ("move_vertex", 7, 0, 9, 9), ("insert_vertex", 7, 0, 8, 8),
            ("remove_vertex", 7, 2), ("put_feature", 8, [1], [0, 0]), ("put_feature", 7, [5], [5, 5]),
            ("remove_feature", 7),
        ]
        for count in range(len(edits) + 1):
            later = [("get_feature", 1, 7), ("list_features", 1), ("list_features", 0)]
            answered = ask(COMMITTED + edits[:count] + later)
            self.assertEqual(answered[-3:], [[0, 1, 1, 2, 0, 0, 4, 0], [1, 7], [0]])


class Discard(StoreTest):
    def test_counts_the_changed_features(self):
        self.check_answers(
            (("create", 2), [0]),
            (("put_feature", 1, [1, 1], [0, 0]), [0]),
            (("put_feature", 2, [1, 1], [0, 0]), [0]),
            (("put_feature", 3, [1, 1], [0, 0]), [0]),
            (("commit",), [1]),
            (("remove_feature", 1), [2]),
            (("set_attribute", 2, 0, 5), [0, 1]),
            (("set_attribute", 2, 1, 5), [0, 1]),
            (("move_vertex", 2, 0, 5, 5), [0, 0, 0]),
            (("put_feature", 4, [1, 1], [0, 0]), [0]),
            (("discard",), [3]),
            (("list_features", WORKING), [3, 1, 2, 3]),
            (("get_feature", WORKING, 2), [0, 2, 1, 1, 1, 0, 0]),
            (("discard",), [0]),
            (("commit",), [-6]),
        )

    def test_change_taken_back_is_not_counted(self):
        self.assertEqual(ask_last(UNDONE + [("discard",)]), [0])
        more = [("put_feature", 8, [1], [0, 0]), ("remove_feature", 8), ("discard",)]
        self.assertEqual(ask_last(COMMITTED + more), [0])

    def test_counts_up_to_two_full_versions(self):
        first = [("put_feature", number, [], [0, 0]) for number in range(16)]
        second = [("put_feature", number, [], [0, 0]) for number in range(16, 32)]
        removed = [("remove_feature", number) for number in range(16)]
        calls = [("create", 0)] + first + [("commit",)] + removed + second
        self.assertEqual(ask_last(calls + [("discard",)]), [32])
        self.assertEqual(ask_last([("create", 0)] + first + [("discard",)]), [16])

    def test_head_and_commits_stay(self):
        later = [("create_branch", UNUSED_NAME), ("get_feature", 1, 7), ("list_features", 2)]
        self.assertEqual(ask(CHANGED + [("discard",)] + later)[-3:], [[1], [0, 1, 1, 2, 0, 0, 4, 0], [-2]])

    def test_edits_behind_a_discard_leave_the_commit(self):
        more = [("discard",), ("set_attribute", 7, 0, 5), ("remove_feature", 7), ("get_feature", 1, 7)]
        self.assertEqual(ask_last(CHANGED + more), [0, 1, 1, 2, 0, 0, 4, 0])


class ResetBranch(StoreTest):
    def test_answers_the_previous_head(self):
        self.check_answers(
            (("create", 0), [0]),
            (("put_feature", 1, [], [0, 0]), [0]),
            (("commit",), [1]),
            (("put_feature", 2, [], [0, 0]), [0]),
            (("commit",), [2]),
            (("reset_branch", 1), [2]),
            (("list_features", WORKING), [1, 1]),
            (("reset_branch", 0), [1]),
            (("list_features", WORKING), [0]),
            (("commit",), [-6]),
            (("reset_branch", 2), [0]),
            (("list_features", WORKING), [2, 1, 2]),
            (("reset_branch", 2), [2]),
        )

    def test_only_the_current_branch_is_reset(self):
        more = [("create_branch", 5), ("reset_branch", 0), ("switch_branch", 5), ("switch_branch", 0)]
        self.assertEqual(ask(COMMITTED + more)[-3:], [[1], [1], [0]])

    def test_edits_behind_a_reset_leave_the_commit(self):
        more = [("reset_branch", 0), ("reset_branch", 1), ("set_attribute", 7, 0, 5), ("get_feature", 1, 7)]
        self.assertEqual(ask_last(COMMITTED + more), [0, 1, 1, 2, 0, 0, 4, 0])

    def test_no_such_commit(self):
        for number in (2, 3, 40, 4294967294, WORKING):
            self.check_refused(COMMITTED, ("reset_branch", number), -2)

    def test_changed_working_version(self):
        for number in (0, 1):
            self.check_refused(CHANGED, ("reset_branch", number), -16)
        self.assertEqual(ask_last(UNDONE + [("reset_branch", 0)]), [1])

    def test_order_of_the_errors(self):
        for number in (2, WORKING):
            self.check_refused(CHANGED, ("reset_branch", number), -2)


if __name__ == "__main__":
    unittest.main()
