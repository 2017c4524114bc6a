"""diff and working_diff: the changes between two versions."""

import unittest

from helper import WORKING, StoreTest, ask, ask_last, coordinates

EIGHT = list(range(10, 18))
ONE_FEATURE = [("create", 8), ("put_feature", 7, EIGHT, [0, 0, 4, 0]), ("commit",)]
# Commit 1 has the features 1 to 4, commit 2 the features 2 to 5, and 3 and 4 are different in it.
TWO_COMMITS = [
    ("create", 2), *[("put_feature", number, [number, 0], [0, 0]) for number in (1, 2, 3, 4)], ("commit",),
    ("put_feature", 5, [5, 0], [1, 1]), ("remove_feature", 1), ("set_attribute", 3, 1, 9), ("move_vertex", 4, 0, 0, 1),
    ("commit",),
]
SCATTERED = (300, 17, 9, 65535, 2, 256, 33, 8, 64)
NO_VERSION = (3, 4, 40, 4294967294)


class Diff(StoreTest):
    def test_each_kind_by_ascending_id(self):
        forth = [4, 1, 2, 0, 3, 3, 2, 4, 3, 1024, 5, 1, 0]
        back = [4, 1, 1, 0, 3, 3, 2, 4, 3, 1024, 5, 2, 0]
        self.assertEqual(ask(TWO_COMMITS + [("diff", 1, 2), ("diff", 2, 1)])[-2:], [forth, back])

    def test_no_change(self):
        for number in (0, 1, 2, WORKING):
            self.assertEqual(ask_last(TWO_COMMITS + [("diff", number, number)]), [0])

    def test_from_and_to_an_empty_version(self):
        self.assertEqual(ask_last(TWO_COMMITS + [("diff", 0, 1)]), [4, 1, 1, 0, 2, 1, 0, 3, 1, 0, 4, 1, 0])
        self.assertEqual(ask_last(TWO_COMMITS + [("diff", 2, 0)]), [4, 2, 2, 0, 3, 2, 0, 4, 2, 0, 5, 2, 0])

    def test_working_version_on_either_side(self):
        more = [("remove_feature", 2), ("put_feature", 0, [0, 0], [0, 0]), ("set_attribute", 5, 0, -5)]
        forth = [3, 0, 1, 0, 2, 2, 0, 5, 3, 1]
        back = [3, 0, 2, 0, 2, 1, 0, 5, 3, 1]
        asked = [("diff", 2, WORKING), ("diff", WORKING, 2), ("diff", WORKING, WORKING)]
        self.assertEqual(ask(TWO_COMMITS + more + asked)[-3:], [forth, back, [0]])

    def test_parts_of_each_attribute(self):
        for index in range(8):
            more = [("set_attribute", 7, index, -1), ("diff", 1, WORKING)]
            self.assertEqual(ask_last(ONE_FEATURE + more), [1, 7, 3, (1, 2, 4, 8, 16, 32, 64, 128)[index]])

    def test_parts_of_all_attributes_and_the_vertices(self):
        put = ("put_feature", 7, [-1] * 8, [0, 0])
        self.assertEqual(ask_last(ONE_FEATURE + [put, ("diff", 1, WORKING)]), [1, 7, 3, 1279])
        put = ("put_feature", 7, [-1] * 8, [0, 0, 4, 0])
        self.assertEqual(ask_last(ONE_FEATURE + [put, ("diff", 1, WORKING)]), [1, 7, 3, 255])
        put = ("put_feature", 7, [-1, *EIGHT[1:7], -1], [0, 0, 4, 1])
        self.assertEqual(ask_last(ONE_FEATURE + [put, ("diff", WORKING, 1)]), [1, 7, 3, 1153])

    def test_parts_of_the_vertices(self):
        edits = (
            ("move_vertex", 7, 0, 1, 0), ("move_vertex", 7, 1, 4, -1), ("insert_vertex", 7, 2, 4, 0),
            ("remove_vertex", 7, 0), ("remove_vertex", 7, 1), ("put_feature", 7, EIGHT, [4, 0, 0, 0]),
            ("put_feature", 7, EIGHT, coordinates(12)),
        )
        for edit in edits:
            self.assertEqual(ask_last(ONE_FEATURE + [edit, ("diff", 1, WORKING)]), [1, 7, 3, 1024], edit)

    def test_replaced_by_the_same_is_no_change(self):
        more = [("remove_feature", 7), ("put_feature", 7, EIGHT, [0, 0, 4, 0]), ("diff", 1, WORKING)]
        self.assertEqual(ask_last(ONE_FEATURE + more), [0])

    def test_up_to_32_changes(self):
        puts = [("put_feature", number, [], [0, 0]) for number in range(32)]
        calls = [("create", 0), *puts[:16], ("commit",), ("reset_branch", 0), *puts[16:], ("commit",), ("diff", 1, 2)]
        removed = [value for number in range(16) for value in (number, 2, 0)]
        added = [value for number in range(16, 32) for value in (number, 1, 0)]
        self.assertEqual(ask_last(calls), [32] + removed + added)

    def test_ids_ascend_whatever_order_they_came_in(self):
        puts = [("put_feature", number, [], [0, 0]) for number in SCATTERED]
        listed = [value for number in sorted(SCATTERED) for value in (number, 1, 0)]
        calls = [("create", 0), *puts, ("diff", 0, WORKING), ("working_diff",)]
        self.assertEqual(ask(calls)[-2:], [[len(SCATTERED)] + listed] * 2)

    def test_no_such_version(self):
        for number in NO_VERSION:
            for asked in (("diff", number, 1), ("diff", 1, number), ("diff", WORKING, number), ("diff", number, 9)):
                self.check_refused(TWO_COMMITS + [("remove_feature", 2)], asked, -2)

    def test_changes_nothing(self):
        asked = [("diff", 1, 2), ("diff", 2, WORKING), ("diff", WORKING, 0)]
        self.check_no_change(TWO_COMMITS + [("remove_feature", 2)], asked)


class WorkingDiff(StoreTest):
    def test_each_kind_by_ascending_id(self):
        more = [("put_feature", 1, [0, 0], [0, 0]), ("remove_feature", 4), ("put_feature", 2, [0, 1], [1, 1])]
        self.assertEqual(ask_last(TWO_COMMITS + more + [("working_diff",)]), [3, 1, 1, 0, 2, 3, 1027, 4, 2, 0])

    def test_no_change(self):
        self.assertEqual(ask_last([("create", 3), ("working_diff",)]), [0])
        self.assertEqual(ask_last(TWO_COMMITS + [("working_diff",)]), [0])
        undone = [("set_attribute", 2, 0, 5), ("set_attribute", 2, 0, 2), ("working_diff",)]
        self.assertEqual(ask_last(TWO_COMMITS + undone), [0])

    def test_is_against_the_head(self):
        more = [("reset_branch", 1), ("remove_feature", 1), ("working_diff",), ("commit",), ("working_diff",)]
        self.assertEqual(ask(TWO_COMMITS + more)[-3:], [[1, 1, 2, 0], [3], [0]])

    def test_is_diff_of_head_and_working_version(self):
        more = [("remove_feature", 5), ("insert_vertex", 3, 0, 8, 8), ("set_attribute", 3, 0, 8)]
        answered = ask(TWO_COMMITS + more + [("working_diff",), ("diff", 2, WORKING)])
        self.assertEqual(answered[-2:], [[2, 3, 3, 1025, 5, 2, 0]] * 2)

    def test_counts_as_many_as_discard(self):
        more = [("remove_feature", 5), ("remove_feature", 2), ("put_feature", 9, [0, 0], [0, 0])]
        answered = ask(TWO_COMMITS + more + [("working_diff",), ("discard",), ("working_diff",)])
        self.assertEqual(answered[-3:], [[3, 2, 2, 0, 5, 2, 0, 9, 1, 0], [3], [0]])

    def test_changes_nothing(self):
        self.check_no_change(TWO_COMMITS + [("remove_feature", 2)], [("working_diff",)])


if __name__ == "__main__":
    unittest.main()
