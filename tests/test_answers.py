"""How calls are handed in and answered, -11, and what holds for sessions of every kind."""

import random
import unittest

from helper import NAMES, WORKING, StoreTest, ask, split_answers, write_calls
from plotversions.store import answers

ONE_OF_EACH = [
    ("create", 2),
    ("put_feature", 7, [1, 2], [0, 0, 4, 0]),
    ("commit",),
    ("set_attribute", 7, 0, 10),
    ("move_vertex", 7, 1, 4, 3),
    ("insert_vertex", 7, 0, 5, 5),
    ("remove_vertex", 7, 0),
    ("get_feature", WORKING, 7),
    ("list_features", 1),
    ("discard",),
    ("create_branch", 5),
    ("switch_branch", 5),
    ("delete_branch", 0),
    ("reset_branch", 0),
    ("set_tag", 9, 1),
    ("remove_feature", 7),
]

WRITTEN = [
    0, 2,
    1, 7, 2, 1, 2, 4, 0, 0, 4, 0,
    9,
    3, 7, 0, 10,
    4, 7, 1, 4, 3,
    5, 7, 0, 5, 5,
    6, 7, 0,
    7, 4294967295, 7,
    8, 1,
    10,
    11, 5,
    12, 5,
    13, 0,
    14, 0,
    15, 9, 1,
    2, 7,
]

ANSWERED = [
    1, 0,
    1, 0,
    1, 1,
    2, 0, 1,
    3, 0, 4, 0,
    1, 3,
    1, 2,
    9, 0, 2, 10, 2, 2, 0, 0, 4, 3,
    2, 1, 7,
    1, 1,
    1, 1,
    1, 1,
    1, 1,
    1, 1,
    1, 0,
    1, -2,
]

WITHOUT_CREATE = (
    ("put_feature", 7, [1, 2], [0, 0]), ("remove_feature", 7), ("set_attribute", 7, 0, 1),
    ("move_vertex", 7, 0, 1, 1), ("insert_vertex", 7, 0, 1, 1), ("remove_vertex", 7, 0), ("get_feature", 0, 7),
    ("list_features", 0), ("commit",), ("discard",), ("create_branch", 1), ("switch_branch", 0),
    ("delete_branch", 0), ("reset_branch", 0), ("set_tag", 0, 0),
)

# Each is refused for a reason of its own where there is a store.
WRONG_WITHOUT_CREATE = (
    ("put_feature", 65536, [1] * 30, []), ("remove_feature", 4294967295), ("set_attribute", 7, 9, 2147483647),
    ("move_vertex", 7, 99, 2147483647, 0), ("insert_vertex", 7, 99, 0, -2147483648), ("remove_vertex", 7, 99),
    ("get_feature", 99, 7), ("list_features", 99), ("switch_branch", 9), ("delete_branch", 9),
    ("reset_branch", WORKING), ("set_tag", 0, WORKING),
)


class Form(StoreTest):
    def test_as_written_number_by_number(self):
        self.assertEqual(write_calls(ONE_OF_EACH), WRITTEN)
        self.assertEqual(answers(WRITTEN), ANSWERED)

    def test_one_call(self):
        self.assertEqual(answers([0, 8]), [1, 0])
        self.assertEqual(answers([0, 9]), [1, -22])
        self.assertEqual(answers([9]), [1, -11])

    def test_empty_rows(self):
        self.assertEqual(answers([0, 0, 1, 3, 0, 0, 1, 3, 0, 2, 1, 2, 8, 4294967295]), [1, 0, 1, -22, 1, 0, 2, 1, 3])

    def test_longest_rows(self):
        put = [1, 3, 30] + [15] * 30 + [30] + [1] * 30
        self.assertEqual(answers([0, 0] + put + [8, 0]), [1, 0, 1, -22, 1, 0])
        self.assertEqual(answers(put + [0, 0]), [1, -11, 1, 0])

    def test_256_calls(self):
        calls = [("create", 0)] + [("put_feature", 1, [], [0, 0] * 12)] * 255
        self.assertEqual(ask(calls), [[0], [0]] + [[1]] * 254)

    def test_whole_numbers_in_a_list(self):
        answered = answers(WRITTEN)
        self.assertIs(type(answered), list)
        self.assertEqual({type(number) for number in answered}, {int})

    def test_no_answer_but_a_refusal_begins_below_0(self):
        before = [("create", 1), ("put_feature", 7, [-5], [-6, -7])]
        more = [("set_attribute", 7, 0, 0), ("move_vertex", 7, 0, 0, 0), ("get_feature", WORKING, 7)]
        self.assertEqual(ask(before + more)[2:], [[0, -5], [0, -6, -7], [0, 1, 0, 1, 0, 0]])


class NoInstance(StoreTest):
    def test_every_call_but_create(self):
        self.assertEqual({call[0] for call in WITHOUT_CREATE}, set(NAMES) - {"create"})
        for call in WITHOUT_CREATE + WRONG_WITHOUT_CREATE:
            self.assertEqual(ask([call]), [[-11]], call)

    def test_a_failed_create_makes_none(self):
        for call in WITHOUT_CREATE + WRONG_WITHOUT_CREATE:
            self.assertEqual(ask([("create", 9), call, ("create", 4294967295), call]), [[-22], [-11]] * 2, call)

    def test_calls_ahead_of_create_leave_nothing(self):
        before = list(WITHOUT_CREATE + WRONG_WITHOUT_CREATE)
        self.assertEqual(ask(before + ONE_OF_EACH)[len(before):], split_answers(ANSWERED))

    def test_never_again_once_there_is_one(self):
        for call in WITHOUT_CREATE + WRONG_WITHOUT_CREATE:
            self.assertNotEqual(ask([("create", 2), ("create", 9), call])[-1], [-11], call)


class NothingIsKept(StoreTest):
    def test_list_handed_in_stays(self):
        handed_in = list(WRITTEN)
        answers(handed_in)
        self.assertEqual(handed_in, WRITTEN)

    def test_list_handed_in_is_not_changed_for_a_while_either(self):
        class Unchangeable(list):
            def refuse(self, *arguments):
                raise AssertionError("what is handed in was changed")

            __setitem__ = __delitem__ = __iadd__ = __imul__ = append = extend = insert = refuse
            pop = remove = clear = sort = reverse = refuse

        self.assertEqual(answers(Unchangeable(WRITTEN)), ANSWERED)

    def test_same_list_again(self):
        handed_in = list(WRITTEN)
        first = answers(handed_in)
        second = answers(handed_in)
        self.assertEqual(first, second)
        self.assertIsNot(first, second)

    def test_no_store_is_left_from_one_time_to_the_next(self):
        answers([0, 2])
        self.assertEqual(answers([9]), [1, -11])

    def test_changing_what_was_answered_changes_nothing_later(self):
        answered = answers(WRITTEN)
        answered.clear()
        self.assertEqual(answers(WRITTEN), ANSWERED)


class RandomSessions(StoreTest):
    """Sessions from a fixed seed; what must hold for each of them is told by the requirements 1, 2 and 7."""

    def test_ids_ascend_and_features_have_the_right_numbers(self):
        for seed in range(150):
            calls = random_session(seed)
            for call, answer in zip(calls, ask(calls), strict=True):
                if call[0] == "list_features" and answer[0] >= 0:
                    self.check_listing(answer)
                if call[0] == "get_feature" and answer[0] == 0:
                    self.check_feature(answer, calls[0][1])

    def check_listing(self, answer):
        self.assertEqual(answer[0], len(answer) - 1)
        self.assertLessEqual(answer[0], 16)
        self.assertEqual(answer[1:], sorted(set(answer[1:])))

    def check_feature(self, answer, attribute_count):
        self.assertEqual(answer[1], attribute_count)
        vertex_count = answer[2 + attribute_count]
        self.assertTrue(1 <= vertex_count <= 12)
        self.assertEqual(len(answer), 3 + attribute_count + 2 * vertex_count)

    def test_refusals_and_queries_change_nothing(self):
        for seed in range(150):
            calls = random_session(seed)
            answered = ask(calls)
            kept = [at for at in range(len(calls)) if is_change(calls[at], answered[at])]
            self.assertEqual(ask([calls[at] for at in kept]), [answered[at] for at in kept], seed)

    def test_commits_never_change(self):
        for seed in range(60):
            calls = random_session(seed)
            seen = {}
            for call, answer in zip(calls, ask(calls), strict=True):
                if call[0] in ("get_feature", "list_features") and call[1] != WORKING and answer[0] >= 0:
                    self.assertEqual(seen.setdefault(call, answer), answer, (seed, call))

    def test_sessions_reach_every_call_and_every_error(self):
        reached = set()
        for seed in range(150):
            calls = random_session(seed)
            for call, answer in zip(calls, ask(calls), strict=True):
                reached.add((call[0], min(answer[0], 0)))
        for name in NAMES:
            self.assertIn((name, 0), reached)
        for pair in REACHED_ERRORS:
            self.assertIn(pair, reached)


REACHED_ERRORS = (
    ("put_feature", -22), ("put_feature", -28), ("remove_feature", -2), ("set_attribute", -2), ("set_attribute", -22),
    ("commit", -28), ("insert_vertex", -28), ("move_vertex", -2), ("move_vertex", -22), ("insert_vertex", -2),
    ("insert_vertex", -22), ("remove_vertex", -2),
    ("remove_vertex", -33), ("get_feature", -2), ("list_features", -2), ("commit", -6), ("create_branch", -17),
    ("create_branch", -28), ("switch_branch", -2), ("switch_branch", -16), ("delete_branch", -2),
    ("delete_branch", -16), ("reset_branch", -2), ("reset_branch", -16), ("set_tag", -2), ("set_tag", -28),
)


def is_change(call, answer):
    return call[0] not in ("get_feature", "list_features") and answer[0] >= 0


def random_session(seed):
    source = random.Random(seed)
    attribute_count = source.randrange(9)
    calls = [("create", attribute_count)]
    # Leaning to one or two calls is what fills versions, features and the history up to their limits.
    favourites = source.choice((
        (), ("put_feature",), ("put_feature", "commit"), ("put_feature", "insert_vertex"), ("create_branch", "set_tag"),
    ))
    names = NAMES[1:] + favourites * 30
    calls += [random_call(source, names, attribute_count) for at in range(source.randrange(100, 256))]
    return calls


def random_call(source, names, attribute_count):
    name = source.choice(names)
    number = source.choice((*range(18), 65535, 65536))
    index = source.choice((0, 0, 0, 1, 1, 2, 3, 12))
    x, y = [source.choice((*range(20), 1000000, -1000000, 1000001)) for axis in "xy"]
    commit = source.choice((0, 1, 2, 3, 4, 5, 39, WORKING, WORKING))
    branch = source.choice((0, 0, 1, 2, 3, 4, 5, 6, 7, 8, WORKING))
    row = [source.choice((0, 1, 2, -1000000000, 1000000000)) for at in range(attribute_count)]
    vertex_count = source.choice((1, 1, 1, 2, 2, 2, 3, 3, 11, 12, 0, 13))
    arguments = {
        "put_feature": (number, row + [0] * (source.random() < 0.1), [x, y] * vertex_count),
        "remove_feature": (number,),
        "set_attribute": (number, index, source.choice((0, 1, 2, 1000000001))),
        "move_vertex": (number, index, x, y),
        "insert_vertex": (number, index, x, y),
        "remove_vertex": (number, index),
        "get_feature": (commit, number),
        "list_features": (commit,),
        "create_branch": (branch,),
        "switch_branch": (branch,),
        "delete_branch": (branch,),
        "reset_branch": (commit,),
        "set_tag": (source.randrange(10), commit),
    }
    return (name, *arguments.get(name, ()))


if __name__ == "__main__":
    unittest.main()
