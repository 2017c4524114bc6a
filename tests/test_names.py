"""The names for commits: create_branch, switch_branch, delete_branch, set_tag, delete_tag, and get_state."""

import unittest

from helper import GREATEST_NAME, WORKING, StoreTest, ask, ask_last

COMMITTED = [("create", 1), ("put_feature", 7, [1], [0, 0, 4, 0]), ("commit",)]
TWO_BRANCHES = COMMITTED + [("create_branch", 5)]
CHANGED = TWO_BRANCHES + [("set_attribute", 7, 0, 2)]
UNDONE = CHANGED + [("set_attribute", 7, 0, 1)]
EIGHT_BRANCHES = COMMITTED + [("create_branch", number) for number in range(1, 8)]
EIGHT_TAGS = COMMITTED + [("set_tag", number, number % 2) for number in range(8)]


class CreateBranch(StoreTest):
    def test_answers_the_head(self):
        self.check_answers(
            (("create", 1), [0]),
            (("create_branch", 3), [0]),
            (("put_feature", 7, [1], [0, 0]), [0]),
            (("create_branch", 4), [0]),
            (("commit",), [1]),
            (("create_branch", 5), [1]),
            (("switch_branch", 3), [0]),
            (("switch_branch", 4), [0]),
            (("switch_branch", 5), [1]),
        )

    def test_current_branch_stays(self):
        more = [("create_branch", 5), ("delete_branch", 0), ("delete_branch", 5)]
        self.assertEqual(ask(COMMITTED + more)[-3:], [[1], [-16], [1]])

    def test_working_version_stays(self):
        more = [("create_branch", 6), ("get_feature", WORKING, 7), ("commit",)]
        self.assertEqual(ask(CHANGED + more)[-3:], [[1], [0, 1, 2, 2, 0, 0, 4, 0], [2]])

    def test_names_at_the_edges(self):
        names = (1, 65536, 2147483648, GREATEST_NAME - 1, GREATEST_NAME)
        more = [("create_branch", name) for name in names] + [("switch_branch", name) for name in names]
        self.assertEqual(ask(COMMITTED + more)[-10:], [[1]] * 10)

    def test_name_is_there_already(self):
        self.check_refused(COMMITTED, ("create_branch", 0), -17)
        self.check_refused(TWO_BRANCHES, ("create_branch", 5), -17)
        self.check_refused(COMMITTED + [("create_branch", GREATEST_NAME)], ("create_branch", GREATEST_NAME), -17)

    def test_eight_branches_and_a_ninth(self):
        self.assertEqual(ask(EIGHT_BRANCHES)[-7:], [[1]] * 7)
        for name in (8, GREATEST_NAME):
            self.check_refused(EIGHT_BRANCHES, ("create_branch", name), -28)

    def test_room_again_after_a_deletion(self):
        more = [("delete_branch", 3), ("create_branch", 8), ("create_branch", 9)]
        self.assertEqual(ask(EIGHT_BRANCHES + more)[-3:], [[7], [1], [-28]])

    def test_name_comes_before_room(self):
        for name in (0, 3, 7):
            self.check_refused(EIGHT_BRANCHES, ("create_branch", name), -17)

    def test_deleted_name_is_free_again(self):
        more = [("delete_branch", 5), ("create_branch", 5)]
        self.assertEqual(ask(TWO_BRANCHES + more)[-2:], [[1], [1]])

    def test_tags_and_branches_are_apart(self):
        more = [("set_tag", 9, 1), ("create_branch", 9), ("set_tag", 0, 1), ("switch_branch", 8)]
        self.assertEqual(ask(COMMITTED + more)[-4:], [[0], [1], [0], [-2]])


class SwitchBranch(StoreTest):
    def test_takes_the_version_of_the_branch(self):
        self.check_answers(
            (("create", 1), [0]),
            (("put_feature", 7, [1], [0, 0]), [0]),
            (("create_branch", 5), [0]),
            (("commit",), [1]),
            (("switch_branch", 5), [0]),
            (("list_features", WORKING), [0]),
            (("put_feature", 8, [1], [0, 0]), [0]),
            (("commit",), [2]),
            (("switch_branch", 0), [1]),
            (("list_features", WORKING), [1, 7]),
            (("switch_branch", 5), [2]),
            (("list_features", WORKING), [1, 8]),
            (("commit",), [-6]),
        )

    def test_to_the_current_branch(self):
        self.assertEqual(ask_last(TWO_BRANCHES + [("switch_branch", 0)]), [1])
        self.check_refused(CHANGED, ("switch_branch", 0), -16)

    def test_no_such_branch(self):
        for name in (1, 4, 6, GREATEST_NAME):
            self.check_refused(TWO_BRANCHES, ("switch_branch", name), -2)
        self.check_refused(TWO_BRANCHES + [("delete_branch", 5)], ("switch_branch", 5), -2)

    def test_changed_working_version(self):
        self.check_refused(CHANGED, ("switch_branch", 5), -16)
        self.assertEqual(ask_last(UNDONE + [("switch_branch", 5)]), [1])
        self.assertEqual(ask(CHANGED + [("discard",), ("switch_branch", 5)])[-2:], [[1], [1]])

    def test_order_of_the_errors(self):
        self.check_refused(CHANGED, ("switch_branch", 6), -2)

    def test_edits_behind_a_switch_leave_the_commit(self):
        more = [("switch_branch", 5), ("set_attribute", 7, 0, 3), ("remove_feature", 7), ("get_feature", 1, 7)]
        self.assertEqual(ask_last(TWO_BRANCHES + more), [0, 1, 1, 2, 0, 0, 4, 0])


class DeleteBranch(StoreTest):
    def test_answers_how_many_remain(self):
        more = [("delete_branch", number) for number in (7, 1, 4, 2, 3, 6, 5)]
        self.assertEqual(ask(EIGHT_BRANCHES + more)[-7:], [[7], [6], [5], [4], [3], [2], [1]])

    def test_branch_0_once_another_is_current(self):
        more = [("switch_branch", 5), ("delete_branch", 0), ("switch_branch", 0), ("create_branch", 0)]
        self.assertEqual(ask(TWO_BRANCHES + more)[-4:], [[1], [1], [-2], [1]])

    def test_changed_working_version_is_no_hindrance(self):
        more = [("delete_branch", 5), ("get_feature", WORKING, 7)]
        self.assertEqual(ask(CHANGED + more)[-2:], [[1], [0, 1, 2, 2, 0, 0, 4, 0]])

    def test_commits_stay(self):
        more = [
            ("switch_branch", 5), ("set_attribute", 7, 0, 9), ("commit",), ("switch_branch", 0),
            ("delete_branch", 5), ("get_feature", 2, 7), ("reset_branch", 2),
        ]
        self.assertEqual(ask(TWO_BRANCHES + more)[-3:], [[1], [0, 1, 9, 2, 0, 0, 4, 0], [1]])

    def test_no_such_branch(self):
        for name in (1, 4, 6, GREATEST_NAME):
            self.check_refused(TWO_BRANCHES, ("delete_branch", name), -2)
        self.check_refused(TWO_BRANCHES + [("delete_branch", 5)], ("delete_branch", 5), -2)

    def test_current_branch(self):
        self.check_refused(COMMITTED, ("delete_branch", 0), -16)
        self.check_refused(TWO_BRANCHES, ("delete_branch", 0), -16)
        self.check_refused(TWO_BRANCHES + [("switch_branch", 5)], ("delete_branch", 5), -16)


class SetTag(StoreTest):
    def test_answers_whether_there_was_one(self):
        self.check_answers(
            (("create", 1), [0]),
            (("set_tag", 3, 0), [0]),
            (("set_tag", 3, 0), [1]),
            (("put_feature", 7, [1], [0, 0]), [0]),
            (("commit",), [1]),
            (("set_tag", 3, 1), [1]),
            (("set_tag", 0, 1), [0]),
            (("set_tag", 0, 0), [1]),
        )

    def test_names_at_the_edges(self):
        names = (0, 65536, 2147483648, GREATEST_NAME - 1, GREATEST_NAME)
        more = [("set_tag", name, 1) for name in names + names]
        self.assertEqual(ask(COMMITTED + more)[-10:], [[0]] * 5 + [[1]] * 5)

    def test_no_such_commit(self):
        for number in (2, 3, 40, 4294967294, WORKING):
            self.check_refused(COMMITTED, ("set_tag", 3, number), -2)
            self.check_refused(COMMITTED + [("set_tag", 3, 0)], ("set_tag", 3, number), -2)

    def test_eight_tags_and_a_ninth(self):
        self.assertEqual(ask(EIGHT_TAGS)[-8:], [[0]] * 8)
        for name in (8, GREATEST_NAME):
            self.check_refused(EIGHT_TAGS, ("set_tag", name, 0), -28)

    def test_replacement_among_eight(self):
        for name in range(8):
            self.assertEqual(ask_last(EIGHT_TAGS + [("set_tag", name, 0)]), [1])

    def test_commit_comes_before_room(self):
        for number in (2, WORKING):
            self.check_refused(EIGHT_TAGS, ("set_tag", 8, number), -2)

    def test_changed_working_version_is_no_hindrance(self):
        more = [("set_tag", 3, 1), ("get_feature", WORKING, 7)]
        self.assertEqual(ask(CHANGED + more)[-2:], [[0], [0, 1, 2, 2, 0, 0, 4, 0]])


class DeleteTag(StoreTest):
    def test_answers_its_commit(self):
        more = [("set_tag", 3, 1), ("set_tag", 4, 0), ("delete_tag", 3), ("delete_tag", 4)]
        self.assertEqual(ask(COMMITTED + more)[-2:], [[1], [0]])

    def test_answers_the_commit_it_was_set_to_last(self):
        more = [("set_tag", 3, 0), ("set_tag", 3, 1), ("delete_tag", 3)]
        self.assertEqual(ask_last(COMMITTED + more), [1])

    def test_tag_stays_where_it_was_set_when_the_branch_moves_on(self):
        more = [("set_tag", 3, 1), ("set_attribute", 7, 0, 2), ("commit",), ("reset_branch", 0), ("delete_tag", 3)]
        self.assertEqual(ask_last(COMMITTED + more), [1])

    def test_names_at_the_edges(self):
        for name in (0, 65536, 2147483648, GREATEST_NAME):
            self.assertEqual(ask_last(COMMITTED + [("set_tag", name, 1), ("delete_tag", name)]), [1])

    def test_no_such_tag(self):
        for name in (0, 5, 9, GREATEST_NAME):
            self.check_refused(TWO_BRANCHES, ("delete_tag", name), -2)
            self.check_refused(TWO_BRANCHES + [("set_tag", 3, 1)], ("delete_tag", name), -2)
        self.check_refused(COMMITTED + [("set_tag", 3, 1), ("delete_tag", 3)], ("delete_tag", 3), -2)

    def test_name_is_new_again(self):
        more = [("set_tag", 3, 1), ("delete_tag", 3), ("set_tag", 3, 0), ("set_tag", 3, 0)]
        self.assertEqual(ask(COMMITTED + more)[-2:], [[0], [1]])

    def test_room_again(self):
        more = [("set_tag", 8, 1), ("delete_tag", 2), ("set_tag", 8, 1), ("set_tag", 9, 1)]
        self.assertEqual(ask(EIGHT_TAGS + more)[-4:], [[-28], [0], [0], [-28]])

    def test_the_other_tags_and_the_commits_stay(self):
        more = [("delete_tag", number) for number in (7, 0, 3, 1, 2, 6, 4, 5)]
        self.assertEqual(ask(EIGHT_TAGS + more)[-8:], [[1], [0], [1], [1], [0], [0], [0], [1]])
        self.assertEqual(ask(EIGHT_TAGS + more + [("list_features", 1)])[-1], [1, 7])

    def test_branch_of_the_same_name_stays(self):
        more = [("set_tag", 5, 0), ("delete_tag", 5), ("switch_branch", 5)]
        self.assertEqual(ask(TWO_BRANCHES + more)[-2:], [[0], [1]])

    def test_changed_working_version_is_no_hindrance(self):
        more = [("set_tag", 3, 1), ("delete_tag", 3), ("get_feature", WORKING, 7)]
        self.assertEqual(ask(CHANGED + more)[-2:], [[1], [0, 1, 2, 2, 0, 0, 4, 0]])


class GetState(StoreTest):
    def test_new_store(self):
        for count in (0, 3, 8):
            self.assertEqual(ask([("create", count), ("get_state",)])[-1], [count, 1, 0, 0, 0, 1, 0, 0, 0])

    def test_names_set_in_any_order(self):
        branches, tags = (300, 7, GREATEST_NAME, 65536, 10, 9, 2), (8, 100, GREATEST_NAME, 0, 20, 3, 2147483648, 99)
        for step in (1, -1):
            more = [("create_branch", name) for name in branches[::step]]
            more += [("set_tag", name, name % 2) for name in tags[::step]]
            self.assertEqual(ask_last(COMMITTED + more + [("get_state",)]), [
                1, 2, 0, 1, 0,
                8, 0, 1, 2, 1, 7, 1, 9, 1, 10, 1, 300, 1, 65536, 1, GREATEST_NAME, 1,
                8, 0, 0, 3, 1, 8, 0, 20, 0, 99, 1, 100, 0, 2147483648, 0, GREATEST_NAME, 1,
            ])

    def test_names_that_were_deleted_and_set_anew(self):
        more = [
            ("create_branch", 9), ("create_branch", 3), ("delete_branch", 5), ("create_branch", 5), ("set_tag", 8, 0),
            ("set_tag", 1, 0), ("delete_tag", 8), ("set_tag", 4, 1), ("set_tag", 8, 1), ("set_tag", 1, 1),
            ("get_state",),
        ]
        self.assertEqual(ask_last(TWO_BRANCHES + more), [
            1, 2, 0, 1, 0, 4, 0, 1, 3, 1, 5, 1, 9, 1, 3, 1, 1, 4, 1, 8, 1,
        ])

    def test_current_branch_and_its_head(self):
        more = [("switch_branch", 5), ("set_attribute", 7, 0, 2), ("commit",), ("get_state",)]
        self.assertEqual(ask_last(TWO_BRANCHES + more), [1, 3, 5, 2, 0, 2, 0, 1, 5, 2, 0])
        more = more[:-1] + [("switch_branch", 0), ("get_state",), ("reset_branch", 0), ("get_state",)]
        answered = ask(TWO_BRANCHES + more)
        self.assertEqual(answered[-3], [1, 3, 0, 1, 0, 2, 0, 1, 5, 2, 0])
        self.assertEqual(answered[-1], [1, 3, 0, 0, 0, 2, 0, 0, 5, 2, 0])

    def test_changed(self):
        edits = (
            ("put_feature", 8, [1], [0, 0]), ("put_feature", 7, [1], [0, 0]), ("remove_feature", 7),
            ("set_attribute", 7, 0, 2), ("move_vertex", 7, 0, 0, 1), ("insert_vertex", 7, 2, 0, 0),
            ("remove_vertex", 7, 1),
        )
        for edit in edits:
            self.assertEqual(ask_last(COMMITTED + [edit, ("get_state",)]), [1, 2, 0, 1, 1, 1, 0, 1, 0], edit)
            self.assertEqual(ask_last(COMMITTED + [edit, ("discard",), ("get_state",)]), [1, 2, 0, 1, 0, 1, 0, 1, 0])
            self.assertEqual(ask_last(COMMITTED + [edit, ("commit",), ("get_state",)]), [1, 3, 0, 2, 0, 1, 0, 2, 0])

    def test_change_taken_back_is_no_change(self):
        self.assertEqual(ask_last(UNDONE + [("get_state",)]), [1, 2, 0, 1, 0, 2, 0, 1, 5, 1, 0])

    def test_changes_nothing(self):
        self.check_no_change(CHANGED + [("set_tag", 3, 1)], [("get_state",)])


if __name__ == "__main__":
    unittest.main()
