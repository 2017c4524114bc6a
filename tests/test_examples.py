"""Both examples of the document, number by number."""

import unittest

from helper import NAMES, StoreTest, ask, split_answers, write_calls
from plotversions.store import answers

BRANCHES = (
    (("create", 2), [0]),
    (("put_feature", 7, [1, 2], [0, 0, 4, 0]), [0]),
    (("commit",), [1]),
    (("create_branch", 5), [1]),
    (("set_attribute", 7, 0, 10), [0, 1]),
    (("commit",), [2]),
    (("switch_branch", 5), [1]),
    (("move_vertex", 7, 1, 4, 3), [0, 4, 0]),
    (("set_attribute", 7, 1, 20), [0, 2]),
    (("commit",), [3]),
    (("merge", 0), [2, 4, 0]),
    (("get_feature", 4, 7), [0, 2, 10, 20, 2, 0, 0, 4, 3]),
    (("origin_of_attribute", 7, 0), [2]),
    (("origin_of_attribute", 7, 1), [3]),
    (("origin_of_vertices", 7), [3]),
    (("log", 4), [5, 4, 3, 2, 1, 0]),
    (("diff", 1, 4), [1, 7, 3, 1027]),
    (("switch_branch", 0), [2]),
    (("merge", 5), [1, 4]),
    (("common_ancestor", 2, 3), [1]),
    (("get_state",), [2, 5, 0, 4, 0, 2, 0, 4, 5, 4, 0]),
)

CONFLICTS = (
    (("get_state",), [-11]),
    (("create", 9), [-22]),
    (("create", 0), [0]),
    (("put_feature", 1, [], [0, 0]), [0]),
    (("put_feature", 1, [5], [0, 0]), [-22]),
    (("commit",), [1]),
    (("create_branch", 1), [1]),
    (("move_vertex", 1, 0, 5, 5), [0, 0, 0]),
    (("commit",), [2]),
    (("switch_branch", 1), [1]),
    (("remove_feature", 1), [0]),
    (("merge", 0), [-16]),
    (("commit",), [3]),
    (("merge", 0), [-35, 1, 1, 1, 0]),
    (("merge_with", 0, 1), [2, 4, 1]),
    (("get_feature", 4, 1), [0, 0, 1, 5, 5]),
    (("revert", 4), [-33]),
    (("revert", 3), [-35, 1, 1, 2, 0]),
    (("cherry_pick", 2), [-6]),
    (("match_features", 1, 4, 10), [1, 1, 1, 1, 50, 0, 0]),
    (("match_features", 1, 4, 7), [0, 1, 1, 1, 1]),
    (("reset_branch", 1), [4]),
    (("delete_branch", 1), [-16]),
    (("collect_garbage",), [2]),
    (("list_features", 4), [-2]),
    (("set_tag", 9, 0), [0]),
    (("delete_tag", 9), [0]),
    (("discard",), [0]),
    (("commit",), [-6]),
)

# The first example as it's handed in and answered, written out without the helper.
BRANCHES_WRITTEN = [
    0, 2, 1, 7, 2, 1, 2, 4, 0, 0, 4, 0, 9, 11, 5, 3, 7, 0, 10, 9, 12, 5, 4, 7, 1, 4, 3, 3, 7, 1, 20, 9, 19, 0,
    7, 4, 7, 25, 7, 0, 25, 7, 1, 26, 7, 23, 4, 17, 1, 4, 12, 0, 19, 5, 24, 2, 3, 30,
]
BRANCHES_ANSWERED = [
    1, 0, 1, 0, 1, 1, 1, 1, 2, 0, 1, 1, 2, 1, 1, 3, 0, 4, 0, 2, 0, 2, 1, 3, 3, 2, 4, 0,
    9, 0, 2, 10, 20, 2, 0, 0, 4, 3, 1, 2, 1, 3, 1, 3, 6, 5, 4, 3, 2, 1, 0, 4, 1, 7, 3, 1027,
    1, 2, 2, 1, 4, 1, 1, 11, 2, 5, 0, 4, 0, 2, 0, 4, 5, 4, 0,
]


class Examples(StoreTest):
    def test_two_branches_that_are_merged(self):
        self.check_answers(*BRANCHES)

    def test_conflicts_and_garbage(self):
        self.check_answers(*CONFLICTS)

    def test_as_written_number_by_number(self):
        self.assertEqual(write_calls([call for call, answer in BRANCHES]), BRANCHES_WRITTEN)
        self.assertEqual(answers(BRANCHES_WRITTEN), BRANCHES_ANSWERED)

    def test_both_in_one_list(self):
        steps = CONFLICTS + BRANCHES
        self.check_answers(*steps)
        self.check_answers(*BRANCHES, *CONFLICTS[1:])

    def test_both_name_every_call_but_a_few(self):
        named = {call[0] for call, answer in BRANCHES + CONFLICTS}
        self.assertEqual(set(NAMES) - named, {"insert_vertex", "remove_vertex", "hash", "working_diff"})

    def test_second_call_of_answers(self):
        for steps in (BRANCHES, CONFLICTS):
            calls = [call for call, answer in steps]
            handed_in = write_calls(calls)
            first = answers(handed_in)
            self.assertEqual(handed_in, write_calls(calls))
            self.assertEqual(answers(handed_in), first)
            self.assertEqual(split_answers(first), ask(calls))


if __name__ == "__main__":
    unittest.main()
