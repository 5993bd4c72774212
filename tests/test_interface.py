"""The interface: how calls are written in one list, and how their answers are."""

import unittest

from sidecolumns.store import answers


class Interface(unittest.TestCase):
    def test_no_calls(self):
        self.assertEqual(answers([]), [])

    def test_calls_and_answers_as_written(self):
        calls = [
            0, 0, 4,
            0, 1, 2,
            1, 0, 0, 8, 4, 2, 0x21, 0x83,
            1, 1, 0, 16, 16, 4, 1, 0, 0, 128,
            3, 0, 0,
            2, 0, 0, 8,
            4, 0, 1, 0, 4, 1,
            1, 0, 2, 8, 8, 4, 1, 9, 9, 9,
            5, 0, 2, 0, 2, 2,
            6, 0, 3, 0, 1, 1,
            7, 0, 4, 0, 2, 4, 1, 1, 8, 18446744073709551615,
            7, 0, 4, 0, 0, 0,
            8, 0, 5, 1, 2, 3, 128,
            9, 0, 4,
            10, 0, 0, 2, 3, 8,
            10, 0, 0, 1, 77,
            10, 0, 0, 0,
            11, 0, 3, 0, 2, 0,
            12, 0, 4, 0, 2,
            13, 0, 5, 2, 0, 0,
            14, 1, 1, 0, 0, 0, 0,
            15, 0, 6, 0, 16, 1,
            16, 1, 2, 0, 0, 0,
            2, 0, 3, 8,
            2, 0, 4, 4,
            2, 0, 5, 8,
            2, 1, 1, 16,
            2, 0, 6, 16,
            2, 1, 2, 16,
            2, 1, 2, 15,
            0, 0, 5000,
        ]
        handed = list(calls)
        expected = [
            1, 0,
            1, 0,
            1, 0,
            1, 0,
            1, 8,
            5, 4, 1, 2, 3, 8,
            1, 3,
            1, 0,
            1, 3,
            1, 2,
            1, 2,
            1, -2,
            1, 2,
            1, 2,
            1, 2,
            1, -1,
            1, -2,
            1, 0,
            1, 0,
            1, 0,
            1, 0,
            1, 0,
            1, 0,
            5, 4, 2, 11, 12, 17,
            3, 2, 0x11, 0x12,
            5, 4, 2, 36, 72, 0,
            5, 4, 2, 0, 0, 128,
            9, 8, 1, 0, 2, 0, 3, 0, 8, 0,
            5, 4, 1, 128, 1, 128,
            1, -3,
            1, -2,
        ]
        self.assertEqual(answers(calls), expected)
        self.assertEqual(calls, handed)
        self.assertEqual(answers(calls), expected)

    def test_the_later_calls_and_answers_as_written(self):
        calls = [
            0, 0, 5,
            0, 1, 2,
            1, 0, 0, 8, 8, 5, 3, 1, 2, 1, 4,
            1, 0, 1, 8, 8, 5, 250, 9, 8, 7, 6,
            1, 1, 0, 16, 16, 4, 1, 0, 4, 0,
            4, 0, 1, 0, 4, 1,
            17, 0, 2, 0, 1, 1,
            2, 0, 2, 8,
            18, 0, 2, 0, 1, 4,
            2, 0, 2, 8,
            18, 0, 2, 0, 1, 6,
            19, 0, 1, 1, 0,
            19, 0, 1, 1, 1,
            19, 0, 9, 1, 1,
            20, 0, 0, 1, 0,
            20, 0, 0, 7, 0,
            21, 0, 0, 1,
            22, 0, 0, 4, 1, 2, 1, 4,
            23, 0, 0, 1, 0,
            23, 0, 0, 1, 5,
            24, 0, 3, 0, 1,
            2, 0, 3, 8,
            25, 0, 3, 1, 1,
            2, 0, 3, 8,
            26, 0, 4, 0, 64, 5, 0, 1, 2, 3, 18446744073709551615,
            26, 0, 4, 0, 64, 4, 0, 1, 2, 3,
            26, 0, 4, 0, 64, 0,
            29, 0, 5, 1, 2, 16, 33,
            2, 0, 5, 3,
            29, 0, 5, 1, 0,
            27, 0, 6, 0, 5,
            2, 0, 6, 8,
            28, 0, 7, 0, 5,
            2, 0, 7, 8,
            30, 0, 8, 0,
            2, 0, 8, 8,
            31, 0, 0, 1, 5,
            31, 0, 0, 1, 4,
            32, 0, 0, 1, 0, 3,
            32, 1, 0, 0, 0, 3,
            32, 0, 0, 1, 0, 2,
            32, 0, 0, 1, 5, 3,
            32, 1, 0, 1, 0, 65536,
        ]
        handed = list(calls)
        expected = [
            1, 0,
            1, 0,
            1, 0,
            1, 0,
            1, 0,
            1, 3,
            1, 0,
            6, 5, 250, 1, 8, 1, 6,
            1, 0,
            6, 5, 4, 250, 9, 8, 7,
            1, -2,
            3, 3, 264, 0,
            3, 3, 8, 0,
            1, -3,
            1, 2,
            1, -1,
            2, 1, 269,
            1, 1,
            17, 16, 14, 24, 0, 0, 0, 0, 0, 0, 0, 0, 0, 0, 0, 0, 0, 0,
            1, -3,
            1, 3,
            6, 5, 3, 2, 4, 0, 0,
            1, 3,
            6, 5, 250, 2, 9, 0, 8,
            1, 0,
            1, -3,
            1, -2,
            1, 0,
            3, 2, 0x84, 0x32,
            1, -2,
            1, 0,
            6, 5, 4, 3, 2, 1, 1,
            1, 0,
            6, 5, 1, 1, 2, 4, 3,
            5, 4, 1, 2, 3, 4,
            6, 5, 2, 0, 1, 0, 3,
            6, 4, 0, 16, 8, 250, 6,
            1, -3,
            7, 3, 1, 0, 3, 0, 4, 1,
            7, 3, 0, 1, 0, 3, 1, 4,
            1, -4,
            1, -3,
            5, 2, 0, 0, 1, 1,
        ]
        self.assertEqual(answers(calls), expected)
        self.assertEqual(calls, handed)
        self.assertEqual(answers(calls), expected)

    def test_whole_numbers_and_a_list_of_its_own(self):
        calls = [0, 0, 2, 1, 0, 0, 8, 8, 2, 3, 4, 4, 0, 0, 0, 0, 3, 9, 0, 0, 2, 0, 0, 8]
        told = answers(calls)
        self.assertIs(type(told), list)
        self.assertEqual({type(number) for number in told}, {int})
        told.append(5)
        self.assertEqual(answers(calls), told[:-1])

    def test_nothing_is_kept_from_one_time_to_the_next(self):
        answers([0, 0, 2, 1, 0, 0, 8, 8, 2, 3, 4, 4, 0, 0, 0, 5, 0])
        self.assertEqual(answers([0, 0, 2, 3, 0, 0, 9, 0, 0, 2, 0, 0, 8]), [1, 0, 1, 0, 1, 0, 1, -3])

    def test_a_list_of_three_hundred_calls(self):
        self.assertEqual(answers([0, 0, 1] + [9, 0, 7] * 299), [1, 0] * 300)

    def test_the_second_store_alone(self):
        self.assertEqual(answers([0, 1, 1, 3, 1, 15]), [1, 0, 1, 0])


if __name__ == "__main__":
    unittest.main()
