"""Point [3], and of point [1] that what is handed out is always new: nobodyspeaks/marks.py, over all marks."""

import unittest

from nobodyspeaks import marks
from nobodyspeaks.marks import channels_of, join, within

ALL_MARKS = range(64)


def mark_of(channels):
    return sum(2 ** channel for channel in channels)


# Each mark with its channels, told by the channels and not by the number, so that it is no copy of the program.
CHANNELS = {
    mark_of(channels): channels
    for channels in (
        [c for c, there in enumerate((a, b, c, d, e, f)) if there]
        for a in (0, 1) for b in (0, 1) for c in (0, 1)
        for d in (0, 1) for e in (0, 1) for f in (0, 1)
    )
}


class OracleTest(unittest.TestCase):
    def test_the_table_has_all_marks(self):
        self.assertEqual(sorted(CHANNELS), list(ALL_MARKS))
        self.assertEqual(CHANNELS[37], [0, 2, 5])


class JoinTest(unittest.TestCase):
    def test_join_has_the_channels_of_both(self):
        for one in ALL_MARKS:
            for two in ALL_MARKS:
                both = mark_of(set(CHANNELS[one]) | set(CHANNELS[two]))
                self.assertEqual(join(one, two), both, (one, two))
                self.assertIs(type(join(one, two)), int)

    def test_some_joins(self):
        self.assertEqual(join(1, 4), 5)
        self.assertEqual(join(3, 6), 7)
        self.assertEqual(join(5, 5), 5)
        self.assertEqual(join(0, 0), 0)
        self.assertEqual(join(31, 32), 63)


class WithinTest(unittest.TestCase):
    def test_within_is_true_just_if_each_channel_is_one_of_the_second(self):
        for one in ALL_MARKS:
            for two in ALL_MARKS:
                expected = all(channel in CHANNELS[two] for channel in CHANNELS[one])
                self.assertIs(within(one, two), expected, (one, two))

    def test_the_empty_mark_is_within_every_mark(self):
        for mark in ALL_MARKS:
            self.assertIs(within(0, mark), True, mark)

    def test_only_the_empty_mark_is_within_the_empty_mark(self):
        for mark in ALL_MARKS:
            self.assertIs(within(mark, 0), mark == 0, mark)

    def test_every_mark_is_within_itself_and_within_the_whole(self):
        for mark in ALL_MARKS:
            self.assertIs(within(mark, mark), True, mark)
            self.assertIs(within(mark, 63), True, mark)

    def test_a_smaller_number_need_not_be_within_a_greater_one(self):
        self.assertIs(within(1, 2), False)
        self.assertIs(within(3, 5), False)
        self.assertIs(within(4, 5), True)
        self.assertIs(within(5, 4), False)


class ChannelsOfTest(unittest.TestCase):
    def test_channels_of_every_mark(self):
        for mark in ALL_MARKS:
            self.assertIs(type(channels_of(mark)), list)
            self.assertEqual(channels_of(mark), CHANNELS[mark], mark)

    def test_the_empty_mark_and_the_whole(self):
        self.assertEqual(channels_of(0), [])
        self.assertEqual(channels_of(63), [0, 1, 2, 3, 4, 5])

    def test_they_rise(self):
        for mark in ALL_MARKS:
            told = channels_of(mark)
            self.assertEqual(told, sorted(set(told)), mark)

    def test_the_list_is_a_new_one_each_time(self):
        for mark in ALL_MARKS:
            told = channels_of(mark)
            self.assertIsNot(channels_of(mark), told)
            told.append(9)
            told.reverse()
            self.assertEqual(channels_of(mark), CHANNELS[mark], mark)


class InterfaceTest(unittest.TestCase):
    def test_each_function_is_defined_here(self):
        for name in ("join", "within", "channels_of"):
            self.assertEqual(getattr(marks, name).__module__, "nobodyspeaks.marks")

    def test_the_arguments_have_the_names_told(self):
        self.assertEqual(join(one=1, two=2), 3)
        self.assertIs(within(one=1, two=3), True)
        self.assertIs(within(two=1, one=3), False)
        self.assertEqual(channels_of(mark=6), [1, 2])


if __name__ == "__main__":
    unittest.main()
