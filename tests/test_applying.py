"""revert and cherry_pick: what they make, their errors and the order of these."""

import random
import unittest

from helper import GREATEST_NAME, WORKING, StoreTest, ask, ask_last, change_between, read_version

SQUARE = [0, 0, 4, 0, 4, 4, 0, 4]
# Commit 2 sets attribute 0 of feature 7, commit 3 adds feature 8, commit 4 moves a vertex of feature 7.
CHAIN = [
    ("create", 2), ("put_feature", 7, [1, 2], SQUARE), ("commit",), ("set_attribute", 7, 0, 5), ("commit",),
    ("put_feature", 8, [8, 8], [0, 0]), ("commit",), ("move_vertex", 7, 2, 9, 9), ("commit",),
]
CHANGED = CHAIN + [("remove_feature", 8)]
# Branch 5 goes on from commit 1 with commit 5, where attribute 1 of feature 7 is different; it is the current one.
FORKED = CHAIN + [
    ("create_branch", 4), ("reset_branch", 1), ("create_branch", 5), ("switch_branch", 5),
    ("set_attribute", 7, 1, 6), ("commit",),
]
MERGED = FORKED + [("merge", 4)]
# Each commit has another attribute 0 of feature 7: undoing one of those in between is a conflict.
STEPS = [("create", 2), ("put_feature", 7, [1, 2], SQUARE), ("commit",)] + [
    call for value in (3, 4, 5) for call in (("set_attribute", 7, 0, value), ("commit",))
]
BOTH = ("revert", "cherry_pick")
SIXTEEN = [("put_feature", number, [0, 0], [number, 0]) for number in range(16)]


def up_to_40_commits(before):
    """Commits that set attribute 1 of feature 99 until there are 40."""
    made = 1 + sum(call[0] in ("commit", "merge") for call in before)
    more = [[("put_feature", 99, [value, value], [0, 0]), ("commit",)] for value in range(40 - made)]
    return before + [call for pair in more for call in pair]


def chain_of(versions):
    """A session in which commit n has the n-th of these versions, from 1 on."""
    calls = [("create", 2)]
    for before, after in zip([{}] + versions, versions):
        calls += change_between(before, after) + [("commit",)]
    return calls


class Revert(StoreTest):
    def test_head(self):
        more = [("revert", 4), ("diff", 3, 5), ("working_diff",), ("log", 5), ("get_feature", WORKING, 7)]
        self.assertEqual(
            ask(CHAIN + more)[-5:], [[5], [0], [0], [6, 5, 4, 3, 2, 1, 0], [0, 2, 5, 2, 4, *SQUARE]]
        )

    def test_an_older_commit(self):
        more = [("revert", 2), ("diff", 4, 5), ("get_feature", 5, 7), ("list_features", 5)]
        kept = [0, 2, 1, 2, 4, 0, 0, 4, 0, 9, 9, 0, 4]
        self.assertEqual(ask(CHAIN + more)[-4:], [[5], [1, 7, 3, 1], kept, [2, 7, 8]])

    def test_a_commit_that_added_a_feature(self):
        self.assertEqual(ask(CHAIN + [("revert", 3), ("diff", 4, 5)])[-2:], [[5], [1, 8, 2, 0]])

    def test_a_commit_that_removed_a_feature(self):
        more = [("remove_feature", 8), ("commit",), ("set_attribute", 7, 1, 0), ("commit",), ("revert", 5)]
        self.assertEqual(ask(CHAIN + more + [("get_feature", 7, 8)])[-2:], [[7], [0, 2, 8, 8, 1, 0, 0]])

    def test_a_revert(self):
        more = [("revert", 4), ("revert", 5), ("diff", 4, 6), ("revert", 6), ("diff", 3, 7)]
        self.assertEqual(ask(CHAIN + more)[-5:], [[5], [6], [0], [7], [0]])

    def test_a_commit_of_another_branch(self):
        # Commit 2 isn't an ancestor of the head, but its change is undone all the same, where it has been made.
        before = CHAIN + [("reset_branch", 1), ("put_feature", 7, [5, 7], SQUARE[:2]), ("commit",)]
        self.assertEqual(ask(before + [("revert", 2), ("get_feature", 6, 7)])[-2:], [[6], [0, 2, 1, 7, 1, 0, 0]])

    def test_the_first_commit_behind_commit_0(self):
        self.assertEqual(ask(CHAIN[:3] + [("revert", 1), ("list_features", 2)])[-2:], [[2], [0]])

    def test_only_parent_is_the_head(self):
        more = [("revert", 2), ("log", 7), ("revert", 7), ("revert", 6)]
        self.assertEqual(ask(MERGED + more)[-4:], [[7], [8, 7, 6, 5, 4, 3, 2, 1, 0], [8], [-33]])

    def test_only_the_current_branch_moves_on(self):
        more = [("create_branch", 6), ("revert", 4), ("get_state",)]
        self.assertEqual(ask_last(CHAIN + more), [2, 6, 0, 5, 0, 2, 0, 5, 6, 4, 0])

    def test_commits_stay(self):
        reads = [("hash", number) for number in range(5)] + [("get_feature", number, 7) for number in range(1, 5)]
        more = [("revert", 2), ("revert", 3), ("set_attribute", 7, 1, 77), ("commit",)]
        self.assertEqual(ask(CHAIN + more + reads)[-9:], ask(CHAIN + reads)[-9:])

    def test_reverting_the_head_gives_the_version_of_its_parent(self):
        for seed in range(60):
            source = random.Random(seed)
            versions = [random_version(source, count % 2) for count in range(source.randrange(2, 8))]
            calls = chain_of(versions)
            count = len(versions)
            self.assertEqual(ask(calls + [("revert", count), ("diff", count - 1, count + 1)])[-2:], [[count + 1], [0]])
            self.assertEqual(read_version(calls + [("revert", count)], WORKING), versions[-2])


def random_version(source, marked):
    """Feature 19 is there in every other version, so that no version is like the one before."""
    numbers = [number for number in range(8) if source.random() < 0.6] + [19] * marked
    return {
        number: ([source.randrange(3), source.randrange(3)], [source.randrange(3) for at in range(4)])
        for number in numbers
    }


class CherryPick(StoreTest):
    def test_on_another_branch(self):
        more = [("cherry_pick", 2), ("diff", 5, 6), ("get_feature", 6, 7), ("log", 6), ("get_state",)]
        self.assertEqual(
            ask(FORKED + more)[-5:],
            [
                [6], [1, 7, 3, 1], [0, 2, 5, 6, 4, *SQUARE], [4, 6, 5, 1, 0],
                [2, 7, 5, 6, 0, 3, 0, 1, 4, 4, 5, 6, 0],
            ],
        )

    def test_one_commit_alone(self):
        more = [("cherry_pick", 4), ("diff", 5, 6), ("cherry_pick", 3), ("diff", 6, 7), ("list_features", WORKING)]
        self.assertEqual(ask(FORKED + more)[-5:], [[6], [1, 7, 3, 1024], [7], [1, 8, 1, 0], [2, 7, 8]])

    def test_a_commit_that_removed_a_feature(self):
        before = [
            ("create", 0), ("put_feature", 1, [], [0, 0]), ("put_feature", 2, [], [0, 0]), ("commit",),
            ("remove_feature", 1), ("commit",), ("reset_branch", 1), ("move_vertex", 2, 0, 3, 3), ("commit",),
        ]
        self.assertEqual(ask(before + [("cherry_pick", 2), ("list_features", 4)])[-2:], [[4], [1, 2]])

    def test_again_behind_a_revert(self):
        more = [("revert", 2), ("cherry_pick", 2), ("diff", 4, 6), ("cherry_pick", 5), ("diff", 5, 7)]
        self.assertEqual(ask(CHAIN + more)[-5:], [[5], [6], [0], [7], [0]])

    def test_the_first_commit_on_commit_0(self):
        more = [("reset_branch", 0), ("cherry_pick", 1), ("diff", 1, 5), ("log", 5)]
        self.assertEqual(ask(CHAIN + more)[-3:], [[5], [0], [2, 5, 0]])

    def test_undoes_a_revert_as_a_merge_does_not(self):
        more = [("cherry_pick", 4), ("revert", 6), ("cherry_pick", 4), ("diff", 6, 8), ("revert", 8), ("diff", 5, 9)]
        self.assertEqual(ask(FORKED + more)[-6:], [[6], [7], [8], [0], [9], [0]])


class Conflicts(StoreTest):
    def test_attribute(self):
        self.check_refused_with(STEPS, ("revert", 2), [-35, 1, 7, 3, 0])
        self.check_refused_with(STEPS, ("revert", 3), [-35, 1, 7, 3, 0])
        self.assertEqual(ask_last(STEPS + [("revert", 4)]), [5])
        before = STEPS + [("reset_branch", 1)]
        self.check_refused_with(before, ("cherry_pick", 3), [-35, 1, 7, 3, 0])
        self.assertEqual(ask_last(before + [("cherry_pick", 2)]), [5])

    def test_removed_and_changed(self):
        before = CHAIN + [("remove_feature", 7), ("commit",)]
        for call in (("revert", 2), ("revert", 4), ("cherry_pick", 2), ("cherry_pick", 4)):
            self.check_refused_with(before, call, [-35, 1, 7, 1, 0])
        more = [("set_attribute", 8, 0, 0), ("commit",)]
        self.check_refused_with(CHAIN + more, ("revert", 3), [-35, 1, 8, 1, 0])

    def test_added_twice(self):
        before = CHAIN + [("set_attribute", 8, 0, 0), ("commit",)]
        self.check_refused_with(before, ("cherry_pick", 3), [-35, 1, 8, 2, 0])
        more = [("remove_feature", 8), ("commit",), ("put_feature", 8, [1, 1], [1, 1]), ("commit",)]
        self.check_refused_with(CHAIN + more, ("revert", 5), [-35, 1, 8, 2, 0])

    def test_vertex_and_list_of_vertices(self):
        before = CHAIN + [("move_vertex", 7, 2, 1, 1), ("commit",)]
        self.check_refused_with(before, ("revert", 4), [-35, 1, 7, 4, 2])
        self.check_refused_with(before, ("cherry_pick", 4), [-35, 1, 7, 4, 2])
        before = CHAIN + [("remove_vertex", 7, 0), ("commit",)]
        self.check_refused_with(before, ("revert", 4), [-35, 1, 7, 5, 0])
        self.check_refused_with(before, ("cherry_pick", 4), [-35, 1, 7, 5, 0])

    def test_several_in_their_order(self):
        first = {1: ([1, 1], SQUARE), 2: ([2, 2], SQUARE), 4: ([4, 4], SQUARE)}
        second = {1: ([3, 3], [9, 9] + SQUARE[2:]), 3: ([3, 3], [0, 0]), 4: ([4, 4], [1, 1])}
        third = {1: ([5, 3], [8, 8] + SQUARE[2:]), 2: ([2, 9], SQUARE), 3: ([3, 4], [0, 0]), 4: ([4, 4], [2, 2, 3, 3])}
        before = chain_of([first, second, third])
        listed = [1, 3, 0, 1, 4, 0, 2, 2, 0, 3, 1, 0, 4, 5, 0]
        self.check_refused_with(before, ("revert", 2), [-35, 5] + listed)
        # With the first version as base, both sides have feature 3 added, and feature 1 changed twice.
        listed = [1, 3, 0, 1, 4, 0, 2, 1, 0, 3, 2, 0, 4, 5, 0]
        self.check_refused_with(before, ("cherry_pick", 2), [-35, 5] + listed)


class Refused(StoreTest):
    def test_no_such_commit(self):
        for name in BOTH:
            for number in (5, 6, 40, 4294967294, WORKING):
                self.check_refused(CHAIN, (name, number), -2)

    def test_removed_commit(self):
        before = CHAIN + [("reset_branch", 3), ("collect_garbage",)]
        for name in BOTH:
            self.check_refused(before, (name, 4), -2)

    def test_commit_0(self):
        for name in BOTH:
            for before in ([("create", 0)], CHAIN, CHAIN + [("reset_branch", 0)]):
                self.check_refused(before, (name, 0), -33)

    def test_commit_with_two_parents(self):
        for name in BOTH:
            self.check_refused(MERGED, (name, 6), -33)
            self.check_refused(MERGED + [("set_attribute", 7, 0, 0), ("commit",)], (name, 6), -33)

    def test_changed_working_version(self):
        for name in BOTH:
            self.check_refused(CHANGED, (name, 2), -16)
        more = [("set_attribute", 7, 0, 0), ("set_attribute", 7, 0, 5), ("revert", 2)]
        self.assertEqual(ask_last(CHAIN + more), [5])

    def test_nothing_would_change(self):
        for number in (2, 3, 4):
            self.check_refused(CHAIN, ("cherry_pick", number), -6)
        self.check_refused(CHAIN + [("revert", 3)], ("revert", 3), -6)
        self.check_refused(CHAIN + [("revert", 4)], ("revert", 4), -6)
        self.check_refused(FORKED, ("revert", 3), -6)

    def test_17_features(self):
        # Commit 1 has 16 features, commit 2 one less, commit 3 has 16 again.
        before = [("create", 2), *SIXTEEN, ("commit",), ("remove_feature", 0), ("commit",)]
        before += [("put_feature", 16, [0, 0], [0, 0]), ("commit",)]
        self.check_refused(before, ("revert", 2), -28)
        self.assertEqual(ask_last(before[:-2] + [("revert", 2)]), [3])
        before = [("create", 2), ("put_feature", 20, [0, 0], [0, 0]), ("commit",), ("reset_branch", 0)]
        before += [*SIXTEEN, ("commit",)]
        self.check_refused(before, ("cherry_pick", 1), -28)
        more = [("remove_feature", 0), ("commit",), ("cherry_pick", 1), ("list_features", 4)]
        self.assertEqual(ask(before + more)[-2:], [[4], [16, *range(1, 16), 20]])

    def test_40_commits(self):
        full = up_to_40_commits(CHAIN)
        self.check_refused(full, ("revert", 2), -28)
        self.check_refused(full, ("revert", 39), -28)
        self.assertEqual(ask_last(full[:-2] + [("revert", 2)]), [39])
        self.check_refused(full + [("reset_branch", 1)], ("cherry_pick", 2), -28)
        self.assertEqual(ask_last(full[:-2] + [("reset_branch", 1), ("cherry_pick", 2)]), [39])

    def test_40_commits_with_removed_ones(self):
        before = up_to_40_commits(CHAIN) + [("reset_branch", 4), ("collect_garbage",)]
        self.assertEqual(ask_last(before), [35])
        self.check_refused(before, ("revert", 2), -28)


class OrderOfTheErrors(StoreTest):
    def test_commit_before_the_changed_working_version(self):
        for name in BOTH:
            for number in (5, GREATEST_NAME):
                self.check_refused(CHANGED, (name, number), -2)

    def test_parents_before_the_changed_working_version(self):
        for name in BOTH:
            self.check_refused(CHANGED, (name, 0), -33)
            self.check_refused(MERGED + [("remove_feature", 8)], (name, 6), -33)

    def test_changed_working_version_before_the_rest(self):
        self.check_refused(STEPS + [("set_attribute", 7, 1, 0)], ("revert", 2), -16)
        self.check_refused(STEPS + [("reset_branch", 1), ("set_attribute", 7, 1, 0)], ("cherry_pick", 3), -16)
        self.check_refused(CHANGED, ("cherry_pick", 2), -16)
        full = up_to_40_commits(CHAIN) + [("remove_feature", 8)]
        for name in BOTH:
            self.check_refused(full, (name, 2), -16)

    def test_conflicts_before_room(self):
        full = up_to_40_commits(STEPS)
        self.check_refused_with(full, ("revert", 2), [-35, 1, 7, 3, 0])
        self.check_refused_with(full + [("reset_branch", 1)], ("cherry_pick", 3), [-35, 1, 7, 3, 0])

    def test_conflicts_before_features(self):
        # Reverting commit 2 would bring back feature 0, and set attribute 0 of feature 1, which has been set again.
        before = [("create", 2), *SIXTEEN, ("commit",), ("remove_feature", 0), ("set_attribute", 1, 0, 5), ("commit",)]
        before += [("put_feature", 16, [0, 0], [0, 0]), ("set_attribute", 1, 0, 6), ("commit",)]
        self.check_refused_with(before, ("revert", 2), [-35, 1, 1, 3, 0])

    def test_no_change_before_room(self):
        full = up_to_40_commits(CHAIN)
        for number in (2, 3, 4, 39):
            self.check_refused(full, ("cherry_pick", number), -6)
        before = up_to_40_commits(CHAIN + [("set_attribute", 7, 0, 1), ("commit",)])
        self.check_refused(before, ("revert", 2), -6)

    def test_parents_before_room(self):
        for name in BOTH:
            self.check_refused(up_to_40_commits(MERGED), (name, 6), -33)
            self.check_refused(up_to_40_commits(CHAIN), (name, 40), -2)


if __name__ == "__main__":
    unittest.main()
