"""How calls are handed in and answered, -11, and what holds for sessions of every kind."""

import random
import unittest

from helper import MAKING_COMMITS, NAMES, QUERIES, WORKING, StoreTest, ask, split_answers, write_calls
from plotversions.store import answers

ONE_OF_EACH = [
    ("create", 2),
    ("put_feature", 7, [1, 2], [0, 0, 4, 0]),
    ("commit",),
    ("set_attribute", 7, 0, 10),
    ("move_vertex", 7, 1, 4, 3),
    ("insert_vertex", 7, 0, 5, 5),
    ("remove_vertex", 7, 0),
    ("get_feature", WORKING, 7),
    ("list_features", 1),
    ("discard",),
    ("create_branch", 5),
    ("switch_branch", 5),
    ("delete_branch", 0),
    ("reset_branch", 0),
    ("set_tag", 9, 1),
    ("remove_feature", 7),
    ("diff", 0, 1),
    ("working_diff",),
    ("log", 1),
    ("common_ancestor", 1, 0),
    ("hash", 0),
    ("cherry_pick", 1),
    ("origin_of_attribute", 7, 1),
    ("origin_of_vertices", 7),
    ("revert", 2),
    ("create_branch", 6),
    ("merge", 6),
    ("merge_with", 6, 1),
    ("match_features", 1, 2, 0),
    ("delete_tag", 9),
    ("collect_garbage",),
    ("get_state",),
]

WRITTEN = [
    0, 2,
    1, 7, 2, 1, 2, 4, 0, 0, 4, 0,
    9,
    3, 7, 0, 10,
    4, 7, 1, 4, 3,
    5, 7, 0, 5, 5,
    6, 7, 0,
    7, 4294967295, 7,
    8, 1,
    10,
    11, 5,
    12, 5,
    13, 0,
    14, 0,
    15, 9, 1,
    2, 7,
    17, 0, 1,
    18,
    23, 1,
    24, 1, 0,
    27, 0,
    22, 1,
    25, 7, 1,
    26, 7,
    21, 2,
    11, 6,
    19, 6,
    20, 6, 1,
    29, 1, 2, 0,
    16, 9,
    28,
    30,
]

ANSWERED = [
    1, 0,
    1, 0,
    1, 1,
    2, 0, 1,
    3, 0, 4, 0,
    1, 3,
    1, 2,
    9, 0, 2, 10, 2, 2, 0, 0, 4, 3,
    2, 1, 7,
    1, 1,
    1, 1,
    1, 1,
    1, 1,
    1, 1,
    1, 0,
    1, -2,
    4, 1, 7, 1, 0,
    1, 0,
    3, 2, 1, 0,
    1, 0,
    3, 0, 2901263852, 1128285067,
    1, 2,
    1, 2,
    1, 2,
    1, 3,
    1, 3,
    2, 0, 3,
    2, 0, 3,
    7, 1, 7, 7, 0, 0, 0, 0,
    1, 1,
    1, 1,
    11, 2, 4, 5, 3, 0, 2, 5, 3, 6, 3, 0,
]

WITHOUT_CREATE = (
    ("put_feature", 7, [1, 2], [0, 0]), ("remove_feature", 7), ("set_attribute", 7, 0, 1),
    ("move_vertex", 7, 0, 1, 1), ("insert_vertex", 7, 0, 1, 1), ("remove_vertex", 7, 0), ("get_feature", 0, 7),
    ("list_features", 0), ("commit",), ("discard",), ("create_branch", 1), ("switch_branch", 0),
    ("delete_branch", 0), ("reset_branch", 0), ("set_tag", 0, 0), ("delete_tag", 0), ("diff", 0, 0), ("working_diff",),
    ("merge", 0), ("merge_with", 0, 0), ("revert", 1), ("cherry_pick", 1), ("log", 0), ("common_ancestor", 0, 0),
    ("origin_of_attribute", 7, 0), ("origin_of_vertices", 7), ("hash", 0), ("collect_garbage",),
    ("match_features", 0, 0, 0), ("get_state",),
)

# Each is refused for a reason of its own where there is a store.
WRONG_WITHOUT_CREATE = (
    ("put_feature", 65536, [1] * 30, []), ("remove_feature", 4294967295), ("set_attribute", 7, 9, 2147483647),
    ("move_vertex", 7, 99, 2147483647, 0), ("insert_vertex", 7, 99, 0, -2147483648), ("remove_vertex", 7, 99),
    ("get_feature", 99, 7), ("list_features", 99), ("switch_branch", 9), ("delete_branch", 9),
    ("reset_branch", WORKING), ("set_tag", 0, WORKING), ("delete_tag", 9), ("diff", 0, 99), ("diff", 99, WORKING),
    ("merge", 9), ("merge_with", 0, 2), ("merge_with", 9, 4294967295), ("revert", 0), ("revert", WORKING),
    ("cherry_pick", 0), ("cherry_pick", 99), ("log", WORKING), ("common_ancestor", 0, WORKING),
    ("origin_of_attribute", 7, 9), ("origin_of_attribute", 4294967295, 0), ("origin_of_vertices", 4294967295),
    ("hash", WORKING), ("match_features", 99, 0, 4294967295), ("match_features", 0, 99, 0),
)


class Form(StoreTest):
    def test_as_written_number_by_number(self):
        self.assertEqual(write_calls(ONE_OF_EACH), WRITTEN)
        self.assertEqual(answers(WRITTEN), ANSWERED)

    def test_one_call(self):
        self.assertEqual(answers([0, 8]), [1, 0])
        self.assertEqual(answers([0, 9]), [1, -22])
        self.assertEqual(answers([9]), [1, -11])

    def test_empty_rows(self):
        self.assertEqual(answers([0, 0, 1, 3, 0, 0, 1, 3, 0, 2, 1, 2, 8, 4294967295]), [1, 0, 1, -22, 1, 0, 2, 1, 3])

    def test_longest_rows(self):
        put = [1, 3, 30] + [15] * 30 + [30] + [1] * 30
        self.assertEqual(answers([0, 0] + put + [8, 0]), [1, 0, 1, -22, 1, 0])
        self.assertEqual(answers(put + [0, 0]), [1, -11, 1, 0])

    def test_256_calls(self):
        calls = [("create", 0)] + [("put_feature", 1, [], [0, 0] * 12)] * 255
        self.assertEqual(ask(calls), [[0], [0]] + [[1]] * 254)

    def test_whole_numbers_in_a_list(self):
        answered = answers(WRITTEN)
        self.assertIs(type(answered), list)
        self.assertEqual({type(number) for number in answered}, {int})

    def test_no_answer_but_a_refusal_begins_below_0(self):
        before = [("create", 1), ("put_feature", 7, [-5], [-6, -7])]
        more = [("set_attribute", 7, 0, 0), ("move_vertex", 7, 0, 0, 0), ("get_feature", WORKING, 7)]
        self.assertEqual(ask(before + more)[2:], [[0, -5], [0, -6, -7], [0, 1, 0, 1, 0, 0]])


class NoInstance(StoreTest):
    def test_every_call_but_create(self):
        self.assertEqual({call[0] for call in WITHOUT_CREATE}, set(NAMES) - {"create"})
        for call in WITHOUT_CREATE + WRONG_WITHOUT_CREATE:
            self.assertEqual(ask([call]), [[-11]], call)

    def test_a_failed_create_makes_none(self):
        for call in WITHOUT_CREATE + WRONG_WITHOUT_CREATE:
            self.assertEqual(ask([("create", 9), call, ("create", 4294967295), call]), [[-22], [-11]] * 2, call)

    def test_calls_ahead_of_create_leave_nothing(self):
        before = list(WITHOUT_CREATE + WRONG_WITHOUT_CREATE)
        self.assertEqual(ask(before + ONE_OF_EACH)[len(before):], split_answers(ANSWERED))

    def test_never_again_once_there_is_one(self):
        for call in WITHOUT_CREATE + WRONG_WITHOUT_CREATE:
            self.assertNotEqual(ask([("create", 2), ("create", 9), call])[-1], [-11], call)


class NothingIsKept(StoreTest):
    def test_list_handed_in_stays(self):
        handed_in = list(WRITTEN)
        answers(handed_in)
        self.assertEqual(handed_in, WRITTEN)

    def test_list_handed_in_is_not_changed_for_a_while_either(self):
        class Unchangeable(list):
            def refuse(self, *arguments):
                raise AssertionError("what is handed in was changed")

            __setitem__ = __delitem__ = __iadd__ = __imul__ = append = extend = insert = refuse
            pop = remove = clear = sort = reverse = refuse

        self.assertEqual(answers(Unchangeable(WRITTEN)), ANSWERED)

    def test_same_list_again(self):
        handed_in = list(WRITTEN)
        first = answers(handed_in)
        second = answers(handed_in)
        self.assertEqual(first, second)
        self.assertIsNot(first, second)

    def test_no_store_is_left_from_one_time_to_the_next(self):
        answers([0, 2])
        self.assertEqual(answers([9]), [1, -11])

    def test_changing_what_was_answered_changes_nothing_later(self):
        answered = answers(WRITTEN)
        answered.clear()
        self.assertEqual(answers(WRITTEN), ANSWERED)


class RandomSessions(StoreTest):
    """Sessions from a fixed seed; what must hold for each of them is told by the requirements 1, 2 and 7."""

    def test_ids_ascend_and_features_have_the_right_numbers(self):
        for seed in range(150):
            calls = random_session(seed)
            for call, answer in zip(calls, ask(calls), strict=True):
                if call[0] == "list_features" and answer[0] >= 0:
                    self.check_listing(answer)
                if call[0] == "get_feature" and answer[0] == 0:
                    self.check_feature(answer, calls[0][1])

    def check_listing(self, answer):
        self.assertEqual(answer[0], len(answer) - 1)
        self.assertLessEqual(answer[0], 16)
        self.assertEqual(answer[1:], sorted(set(answer[1:])))

    def check_feature(self, answer, attribute_count):
        self.assertEqual(answer[1], attribute_count)
        vertex_count = answer[2 + attribute_count]
        self.assertTrue(1 <= vertex_count <= 12)
        self.assertEqual(len(answer), 3 + attribute_count + 2 * vertex_count)

    def test_refusals_and_queries_change_nothing(self):
        for seed in range(150):
            calls = random_session(seed)
            answered = ask(calls)
            kept = [at for at in range(len(calls)) if is_change(calls[at], answered[at])]
            self.assertEqual(ask([calls[at] for at in kept]), [answered[at] for at in kept], seed)

    def test_commits_never_change(self):
        for seed in range(100):
            calls = random_session(seed)
            seen = {}
            for call, answer in zip(calls, ask(calls), strict=True):
                if call[0] in OF_COMMITS and WORKING not in call[1:] and answer[0] >= 0:
                    self.assertEqual(seen.setdefault(call, answer), answer, (seed, call))

    def test_ancestors_of_every_name_are_there(self):
        for seed in range(100):
            before = random_session(seed)[:200]
            state = ask(before + [("get_state",)])[-1]
            branches_end = 6 + 2 * state[5]
            named = sorted({*state[7:branches_end:2], *state[branches_end + 2::2]})
            found = {0}
            for answer in ask(before + [("log", number) for number in named])[len(before):]:
                self.assertEqual(answer[0], len(answer) - 1)
                self.assertEqual(answer[1:], sorted(answer[1:], reverse=True))
                found |= set(answer[1:])
            for answer in ask(before + [("list_features", number) for number in sorted(found)])[len(before):]:
                self.assertGreaterEqual(answer[0], 0)
            # Just these are left behind a collection of garbage.
            asked = [("collect_garbage",)] + [("list_features", number) for number in range(40)]
            answered = ask(before + asked)[len(before) + 1:]
            self.assertEqual([number for number in range(40) if answered[number] != [-2]], sorted(found))

    def test_numbers_of_new_commits_go_up_by_1(self):
        for seed in range(150):
            calls = random_session(seed)
            count = 1
            for call, answer in zip(calls[1:], ask(calls)[1:], strict=True):
                number = new_commit(call, answer)
                if number is not None:
                    self.assertEqual(number, count)
                    count += 1
                if call[0] == "get_state":
                    self.assertEqual(answer[1], count)

    def test_equal_if_and_only_if_there_are_no_changes(self):
        for seed in range(60):
            before = random_session(seed)[:150]
            ids = (*range(18), 65535)
            read = [("list_features", WORKING)] + [("get_feature", WORKING, feature) for feature in ids]
            working = ask(before + read)[len(before):]
            for number in range(0, 40, 3):
                asked = [("list_features", number)] + [("get_feature", number, feature) for feature in ids]
                asked += [("diff", number, WORKING), ("diff", WORKING, number)]
                answered = ask(before + asked)[len(before):]
                if answered[0] != [-2]:
                    self.assertEqual(answered[:-2] == working, answered[-1] == [0])
                    self.assertEqual(answered[-1][0], answered[-2][0])

    def test_reverting_the_head_gives_the_version_of_its_parent(self):
        reverted = 0
        for seed in range(150):
            calls = [call for call in random_session(seed) if call[0] != "create"][:150]
            before = [random_session(seed)[0]] + calls + [("discard",), ("get_state",)]
            state = ask(before)[-1]
            answered = ask(before + [("log", state[3]), ("revert", state[3])])[-2:]
            if answered[1][0] >= 0:
                # The commit has one parent, which is the greatest of its other ancestors.
                asked = [("revert", state[3]), ("diff", answered[0][2], answered[1][0])]
                self.assertEqual(ask(before + asked)[-1], [0])
                reverted += 1
        self.assertGreater(reverted, 20)

    def test_sessions_reach_every_call_and_every_error(self):
        reached = set()
        for seed in range(150):
            calls = random_session(seed)
            for call, answer in zip(calls, ask(calls), strict=True):
                reached.add((call[0], min(answer[0], 0)))
                if call[0] in ("merge", "merge_with") and answer[0] >= 0:
                    reached.add((call[0], "result", answer[0]))
        for name in NAMES:
            self.assertIn((name, 0), reached)
        for pair in REACHED_ERRORS:
            self.assertIn(pair, reached)
        for name in ("merge", "merge_with"):
            self.assertEqual({row[2] for row in reached if row[:2] == (name, "result")}, {0, 1, 2})


REACHED_ERRORS = (
    ("put_feature", -22), ("put_feature", -28), ("remove_feature", -2), ("set_attribute", -2), ("set_attribute", -22),
    ("commit", -28), ("insert_vertex", -28), ("move_vertex", -2), ("move_vertex", -22), ("insert_vertex", -2),
    ("insert_vertex", -22), ("remove_vertex", -2),
    ("remove_vertex", -33), ("get_feature", -2), ("list_features", -2), ("commit", -6), ("create_branch", -17),
    ("create_branch", -28), ("switch_branch", -2), ("switch_branch", -16), ("delete_branch", -2),
    ("delete_branch", -16), ("reset_branch", -2), ("reset_branch", -16), ("set_tag", -2), ("set_tag", -28),
    ("delete_tag", -2), ("diff", -2), ("merge", -2), ("merge", -16), ("merge", -35), ("merge_with", -22),
    ("merge_with", -2), ("merge_with", -16), ("revert", -2), ("revert", -33), ("revert", -16), ("revert", -35),
    ("revert", -6), ("cherry_pick", -2), ("cherry_pick", -33), ("cherry_pick", -16), ("cherry_pick", -35),
    ("cherry_pick", -6), ("log", -2), ("common_ancestor", -2), ("origin_of_attribute", -2), ("origin_of_vertices", -2),
    ("hash", -2), ("match_features", -2),
)

# What these answer of commits is always the same, as long as the commits are there.
OF_COMMITS = ("get_feature", "list_features", "diff", "log", "common_ancestor", "hash", "match_features")


def is_change(call, answer):
    return call[0] not in QUERIES and answer[0] >= 0


def new_commit(call, answer):
    """The number of the commit that a call has made, or None."""
    if call[0] not in MAKING_COMMITS or answer[0] < 0:
        return None
    if call[0] in ("merge", "merge_with"):
        return answer[1] if answer[0] == 2 else None
    return answer[0]


def random_session(seed):
    source = random.Random(seed)
    attribute_count = source.randrange(9)
    calls = [("create", attribute_count)]
    # Leaning to one or two calls is what fills versions, features and the history up to their limits.
    favourites = source.choice((
        (), ("put_feature",), ("put_feature", "insert_vertex"), ("put_feature", "commit") * 4,
        ("create_branch", "set_tag"),
        ("put_feature", "set_attribute", "commit", "switch_branch", "create_branch", "merge", "merge_with"),
        ("put_feature", "move_vertex", "commit", "commit", "revert", "cherry_pick"),
        ("put_feature", "commit", "reset_branch", "delete_branch", "collect_garbage"),
    ))
    names = NAMES[1:] + favourites * 30
    calls += [random_call(source, names, attribute_count) for at in range(source.randrange(100, 256))]
    return calls


def random_call(source, names, attribute_count):
    name = source.choice(names)
    number = source.choice((*range(18), 1, 1, 1, 2, 2, 3, 65535, 65536))
    index = source.choice((0, 0, 0, 1, 1, 2, 3, 12))
    x, y = [source.choice((*range(20), 1000000, -1000000, 1000001)) for axis in "xy"]
    commit, other_commit = [source.choice((*range(12), 0, 0, 0, 1, 1, 2, 39, WORKING, WORKING)) for which in range(2)]
    branch = source.choice((0, 0, 1, 2, 3, 4, 5, 6, 7, 8, WORKING))
    row = [source.choice((0, 1, 2, -1000000000, 1000000000)) for at in range(attribute_count)]
    vertex_count = source.choice((1, 1, 1, 2, 2, 2, 3, 3, 11, 12, 0, 13))
    arguments = {
        "put_feature": (number, row + [0] * (source.random() < 0.1), [x, y] * vertex_count),
        "remove_feature": (number,),
        "set_attribute": (number, index, source.choice((0, 1, 2, 1000000001))),
        "move_vertex": (number, index, x, y),
        "insert_vertex": (number, index, x, y),
        "remove_vertex": (number, index),
        "get_feature": (commit, number),
        "list_features": (commit,),
        "create_branch": (branch,),
        "switch_branch": (branch,),
        "delete_branch": (branch,),
        "reset_branch": (commit,),
        "set_tag": (source.randrange(20), commit),
        "delete_tag": (source.randrange(20),),
        "diff": (commit, other_commit),
        "merge": (branch,),
        "merge_with": (branch, source.choice((0, 0, 0, 1, 1, 1, 2, WORKING))),
        "revert": (commit,),
        "cherry_pick": (commit,),
        "log": (commit,),
        "common_ancestor": (commit, other_commit),
        "origin_of_attribute": (number, index),
        "origin_of_vertices": (number,),
        "hash": (commit,),
        "match_features": (commit, other_commit, source.choice((0, 1, 5, 20, WORKING))),
    }
    return (name, *arguments.get(name, ()))


if __name__ == "__main__":
    unittest.main()
