import unittest

from violinmaker.workshop import answers


class ReadingTest(unittest.TestCase):
    """Lines written out number by number, so that the order of a call's numbers is held."""

    def test_one_call(self):
        self.assertEqual(answers([0, 1, 0, 1, 6, 1, 1, 1, 1, 1, 1]), [1, 0])

    def test_a_line_of_all_calls(self):
        line = [0, 2, 7, 200000, 6, 1, 2, 3, 4, 5, 6]
        answered = [1, 0]
        for call, told in (
            ([1, 0, 3, 400, 1825], [1, 0]),
            ([1, 1, 4, 600, 1800], [1, 1]),
            ([1, 0, 3, 420, 2000], [1, 2]),
            ([1, 1, 4, 650, 2500], [1, 3]),
            ([16, 1], [5, 25, 1, 4, 600, 0]),
            ([15, 0], [3, 20, 0, 2]),
            ([15, 1], [1, -33]),
            ([4, 7], [1, -33]),
            ([10, 25], [1, 25]),
            ([15, 1], [3, 50, 1, 3]),
            ([4, 7], [5, 0, 0, 2, 1, 3]),
            ([16, 3], [5, 0, 1, 4, 650, 1]),
            ([5, 0, 1, 2], [1, 1047]),
            ([6, 0, 1, 1035], [1, 2]),
            ([2, 400, 3], [1, 0]),
            ([2, 500, 9], [1, 1]),
            ([3, 589], [1, 0]),
            ([3, 600], [1, 1]),
            ([7, 0], [1, 27]),
            ([10, 2], [1, 27]),
            ([7, 0], [1, 29]),
            ([10, 2], [1, 29]),
            ([7, 0], [1, 31]),
            ([10, 2], [1, 31]),
            ([7, 0], [1, 33]),
            ([8, 0, 1, 0], [1, -13]),
            ([10, 2], [1, 33]),
            ([8, 0, 1, 0], [1, 33325]),
            ([9, 0, 1], [1, 0]),
            ([8, 0, 1, 1], [1, 41656]),
            ([8, 0, 0, 0], [1, 74811]),
            ([8, 0, 2, 1], [1, 18555]),
            ([8, 0, 3, 0], [1, 6612]),
            ([12, 0, 0], [1, -16]),
            ([11, 0, 1], [1, 7]),
            ([12, 0, 1], [1, 0]),
            ([10, 5], [1, 38]),
            ([13, 0], [2, 35, 1]),
            ([14, 0, 1, 5000], [1, 4983]),
            ([7, 0], [1, -71]),
            ([0, 0, 0, 1, 6, 1, 1, 1, 1, 1, 1], [1, -22]),
            ([7, 0], [1, -71]),
            ([0, 1, 0, 1, 6, 1, 1, 1, 1, 1, 1], [1, 0]),
            ([7, 0], [1, -2]),
        ):
            line += call
            answered += told
            self.assertEqual(answers(line), answered, call)

    def test_each_line_is_new(self):
        line = [0, 1, 0, 1, 6, 1, 1, 1, 1, 1, 1, 1, 0, 0, 300, 0, 10, 4]
        for _ in range(3):
            self.assertEqual(answers(line), [1, 0, 1, 0, 1, 4])

    def test_the_list_is_as_it_was(self):
        line = [0, 1, 0, 1, 6, 1, 2, 3, 4, 5, 6, 1, 0, 0, 300, 0, 1, 2, 0, 300, 0]
        before = list(line)
        answers(line)
        self.assertEqual(line, before)

    def test_what_is_given_back_is_one_s_own(self):
        line = [0, 1, 0, 1, 6, 1, 1, 1, 1, 1, 1]
        answers(line).append(5)
        self.assertEqual(answers(line), [1, 0])

    def test_a_thousand_calls(self):
        line = [0, 1, 0, 1, 6, 1, 1, 1, 1, 1, 1] * 1000
        self.assertEqual(answers(line), [1, 0] * 1000)


if __name__ == "__main__":
    unittest.main()
