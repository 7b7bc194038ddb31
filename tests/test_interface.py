"""How calls and answers are laid in their lists, and what holds of each time the program is called."""

import contextlib
import io
import unittest

from ninekinds.table import answers
from support import (
    begin, bits, blank, cast, choose, classes, compare, do, ends, get, join, keep, more, pick, put, rest, scattered,
    split, split_answers, told, total, whole,
)

ALL_CALLS = [
    begin(3), put(0, 8, [bits(8, 1.5), bits(8, -2.5), bits(8, 0.0)]), get(0, 8, 3), cast(0, 1, 0, 1), get(1, 0, 3),
    whole(0, 2, 0, 0), rest(0, 3, 0, 0), split(0, 4, 5), join(5, 4, 6), do(5, 0, 2, 7), more(0, 2, 3, 8),
    get(8, 8, 3), begin(0), get(9, 8, 3), get(8, 7, 3), compare(1, 0, 1, 3), compare(4, 0, 1, 3), classes(0), total(0),
    total(1), ends(0), ends(1), blank(0, 3, [0b11111010]), choose(0, 2, 3, 9, [0b11111001]), get(9, 8, 3),
    keep(3, [0b11110110]), told(), pick([1, 0, 1]), get(0, 8, 3), pick([3]), keep(2, [3]), choose(0, 1, 3, 9, [0]),
    blank(10, 3, [0]), pick([]), ends(0), told(),
]


def flat(calls):
    return [number for call in calls for number in call]


class Unchanging(list):
    """A list that tells of any change, even one that is taken back."""

    def refuse(self, *given):
        raise AssertionError("what is handed in was changed")

    __setitem__ = __delitem__ = __iadd__ = __imul__ = refuse
    append = extend = insert = pop = remove = clear = sort = reverse = refuse


class Layout(unittest.TestCase):
    def test_an_empty_list(self):
        self.assertEqual(answers([]), [])

    def test_a_count_ahead_of_each_answer(self):
        calls = [0, 2, 1, 3, 0, 2, 65535, 7, 2, 3, 0, 2, 3, 3, 4, 1, 0, 2, 4, 1, 2, 2, 3, 0, 3]
        self.assertEqual(answers(calls), [1, 0, 1, 0, 4, 2, 65535, 7, 3, 1, 1, 4, 1, 0, 7, 2, 1, -2])

    def test_a_refused_put_is_passed_over_with_its_list(self):
        self.assertEqual(answers([0, 2, 1, 0, 0, 3, 0, 2, 3, 1, 0, 0, 2, 5, 6, 2, 0, 0, 2]),
                         [1, 0, 1, -2, 1, 0, 4, 2, 5, 6, 3])
        self.assertEqual(answers([0, 2, 1, 0, 9, 0, 2, 0, 0, 2]), [1, 0, 1, -2, 1, -3])

    def test_each_call_by_its_number(self):
        one, two = bits(8, 1.0), bits(8, 2.0)
        for call, to, wanted in [([3, 0, 5, 8, 0], 5, two), ([4, 0, 5, 1, 0], 5, two), ([5, 0, 5, 1, 0], 5, 0),
                                 ([6, 0, 5, 6], 5, one), ([6, 0, 5, 6], 6, one), ([7, 0, 1, 5], 5, bits(8, 16.0)),
                                 ([8, 1, 0, 1, 5], 5, bits(8, -1.0)), ([9, 0, 0, 1, 5], 5, bits(8, 7.0))]:
            found = answers([0, 1, 1, 0, 8, 1, two, 1, 1, 8, 1, bits(8, 3.0)] + call + [2, to, 8, 1])
            self.assertEqual(found, [1, 0, 1, 0, 1, 0, 1, 0, 3, 1, wanted, 1], call)

    def test_the_calls_that_look_by_their_numbers(self):
        start = [0, 2, 1, 0, 0, 2, 65535, 7, 1, 1, 0, 2, 7, 7]
        for call, wanted in [([10, 0, 0, 1, 2], [2, 1, 2]), ([10, 1, 0, 1, 2], [2, 1, 1]),
                             ([10, 2, 0, 1, 2], [2, 2, 3]), ([10, 3, 0, 1, 2], [2, 0, 0]),
                             ([11, 0], [9, 2, 0, 0, 0, 0, 1, 0, 2, 2]),
                             ([12, 0], [3, 2, 6, 0]), ([13, 0], [3, 2, 18446744073709551615, 7]),
                             ([18], [18, 0, 2, 0, 0] + [4294967295] * 14)]:
            self.assertEqual(answers(start + call), [1, 0, 1, 0, 1, 0] + wanted, call)

    def test_the_calls_on_rows_by_their_numbers(self):
        start = [0, 2, 1, 0, 0, 2, 5, 6, 1, 1, 0, 2, 7, 8]
        for call, wanted in [([14, 0, 2, 1, 1, 2, 0, 0, 2], [1, 1, 4, 1, 0, 6, 2]),
                             ([15, 0, 1, 2, 4, 1, 2, 2, 4, 0, 2], [1, 0, 4, 2, 7, 6, 3]),
                             ([16, 2, 1, 2, 2, 1, 0, 1], [1, 1, 3, 1, 8, 1]),
                             ([17, 3, 1, 1, 0, 2, 0, 0, 3], [1, 3, 5, 3, 6, 6, 5, 7]),
                             ([17, 0, 2, 0, 0, 0], [1, 0, 1, 0])]:
            self.assertEqual(answers(start + call), [1, 0, 1, 0, 1, 0] + wanted, call)

    def test_a_refused_call_is_passed_over_with_its_list(self):
        start = [0, 2, 1, 0, 0, 2, 5, 6]
        for call, wanted in [([14, 0, 9, 2, 0, 2], -2), ([14, 3, 2, 1, 0], -3), ([14, 0, 0, 0], -2),
                             ([15, 0, 0, 17, 1, 3, 0, 2, 0], -2), ([15, 0, 1, 2, 1, 1, 18], -3),
                             ([15, 0, 0, 2049, 1, 0], -2), ([16, 9, 2, 0, 2], -2), ([16, -1, 0], -2),
                             ([17, 3, 0, 2, 0], -2), ([10, 0, 0, 0, 3], -2), ([13, 16], -2)]:
            self.assertEqual(answers(start + call + [2, 0, 0, 2]), [1, 0, 1, 0, 1, wanted, 4, 2, 5, 6, 3], call)

    def test_all_calls_in_one_list(self):
        one_half, minus_two, none, top = bits(8, 1.5), bits(8, -2.0), 4294967295, 18446744073709551615
        found = split_answers(answers(flat(ALL_CALLS)))
        self.assertEqual(found[:2] + found[12:15], [[0], [0], [-2], [-3], [-4]])
        kinds = [8, 0] + [8] * 8 + [none] * 6
        self.assertEqual(found[15:], [
            [0, 0], [-2], [3, 0, 0, 0, 1, 1, 0, 1, 0], [3, bits(8, -1.0), 0], [3, top - 1, top],
            [3, bits(8, -2.5), one_half], [3, top - 2, 1], [1], [0], [3, one_half, minus_two, 0, 7],
            [2], [0, 2] + kinds, [3], [2, 0, 0, 0, 5], [-2], [-2], [-4], [-3], [0], [-5], [0, 0] + kinds])

    def test_the_answer_is_a_list_of_whole_numbers(self):
        found = answers(flat(ALL_CALLS))
        self.assertIs(type(found), list)
        self.assertEqual({type(number) for number in found}, {int})

    def test_a_long_line(self):
        calls = [begin(2048)] + [put(c, 8, scattered(8, 2048, c)) for c in range(7)]
        calls += [do(c % 6, c % 7, (c + 1) % 7, c % 16) for c in range(291)] + [get(0, 8, 2048)]
        line = flat(calls)
        self.assertLessEqual(len(line), 16000)
        self.assertEqual(len(calls), 300)
        found = answers(line)
        self.assertEqual(found[:598], [1, 0] * 299)
        self.assertEqual(found[598:600], [1 + 2048 + 256, 2048])
        self.assertEqual(found[-256:], [255] * 256)


class EachTime(unittest.TestCase):
    def test_what_is_handed_in_is_not_changed(self):
        calls = Unchanging(flat(ALL_CALLS))
        found = answers(calls)
        self.assertEqual(list(calls), flat(ALL_CALLS))
        self.assertEqual(found, answers(flat(ALL_CALLS)))

    def test_the_answer_shares_nothing_with_what_is_kept(self):
        first = answers(flat(ALL_CALLS))
        kept = list(first)
        first.clear()
        self.assertEqual(answers(flat(ALL_CALLS)), kept)

    def test_nothing_is_kept_from_one_time_to_the_next(self):
        before = answers([0, 3, 2, 0, 8, 3])
        answers(flat(ALL_CALLS))
        self.assertEqual(answers([0, 3, 2, 0, 8, 3]), before)
        self.assertEqual(before, [1, 0, 1, -3])

    def test_nothing_is_printed(self):
        out, err = io.StringIO(), io.StringIO()
        with contextlib.redirect_stdout(out), contextlib.redirect_stderr(err):
            answers(flat(ALL_CALLS))
        self.assertEqual((out.getvalue(), err.getvalue()), ("", ""))


if __name__ == "__main__":
    unittest.main()
