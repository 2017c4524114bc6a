"""Writes calls by their names, and splits what is answered call by call."""

import unittest

from plotversions.store import answers

NAMES = (
    "create", "put_feature", "remove_feature", "set_attribute", "move_vertex", "insert_vertex",
    "remove_vertex", "get_feature", "list_features", "commit", "discard", "create_branch",
    "switch_branch", "delete_branch", "reset_branch", "set_tag",
)

WORKING = 4294967295
GREATEST_NAME = 4294967295
UNUSED_NAME = 4000000000
UNUSED_ID = 60000

LEAST_SIGNED = -2147483648
GREATEST_SIGNED = 2147483647


def write_calls(calls):
    """The list of whole numbers for calls such as ("put_feature", 7, [1], [0, 0])."""
    numbers = []
    for name, *arguments in calls:
        numbers.append(NAMES.index(name))
        for argument in arguments:
            if isinstance(argument, list):
                numbers.append(len(argument))
                numbers.extend(argument)
            else:
                numbers.append(argument)
    # No test may hand in what the document says is never handed in.
    if not 1 <= len(calls) <= 256 or len(numbers) > 16384:
        raise AssertionError(f"{len(calls)} calls, {len(numbers)} numbers")
    return numbers


def split_answers(numbers):
    split = []
    position = 0
    while position < len(numbers):
        end = position + 1 + numbers[position]
        split.append(numbers[position + 1:end])
        position = end
    return split


def ask(calls):
    """The answer of each call, as a list of lists."""
    return split_answers(answers(write_calls(calls)))


def ask_last(calls):
    """The answer of the last call."""
    return ask(calls)[-1]


def coordinates(count):
    """The coordinates of `count` vertices, all different."""
    return [number for at in range(count) for number in (at, -at)]


def first_arguments(calls, name):
    return sorted({call[1] for call in calls if call[0] == name})


def follow_ups(calls):
    """Lists of calls, each to be asked behind `calls`, that together show all of the state."""
    ids = first_arguments(calls, "put_feature")
    commits = range(1 + sum(call[0] == "commit" for call in calls))
    branches = sorted({0, *first_arguments(calls, "create_branch")})
    tags = first_arguments(calls, "set_tag") + [UNUSED_NAME]
    working = [("list_features", WORKING)] + [("get_feature", WORKING, number) for number in ids]
    return [
        working,
        [("commit",)],
        [("discard",)] + working + [("create_branch", UNUSED_NAME)],
        [("list_features", commit) for commit in commits],
        [("set_tag", tag, 0) for tag in tags],
        [("put_feature", UNUSED_ID, [0] * count, [0, 0]) for count in range(9)],
        *[[("list_features", commit)] + [("get_feature", commit, number) for number in ids] for commit in commits],
        *[[("discard",), ("switch_branch", branch)] + working for branch in branches],
        *[[("discard",), ("delete_branch", branch)] for branch in branches],
    ]


class StoreTest(unittest.TestCase):
    def check_answers(self, *steps):
        """Each step is a call and its whole answer; all of them are one session."""
        answered = ask([call for call, answer in steps])
        for (call, answer), given in zip(steps, answered, strict=True):
            self.assertEqual(given, answer, call)

    def check_refused(self, before, refused, code):
        """The call is answered by the code alone, and later calls are answered as if it had not been there."""
        self.assertEqual(ask_last(before + [refused]), [code], refused)
        for later in follow_ups(before + [refused]):
            without = ask(before + later)[len(before):]
            self.assertEqual(ask(before + [refused] + later)[len(before) + 1:], without, (refused, later))
