"""How calls and answers stand in their lists, and that nothing is changed or kept."""

import unittest

from oftenest.desk import answers
from oftenest.message import message_of
from oftenest.stream import Stream


class Lists(unittest.TestCase):
    def test_each_answer_has_its_length_ahead(self):
        calls = [0, 0, 1, 2, 1, 0, 5, 3, 0, 5, 3, 0, 6]
        self.assertEqual(answers(calls), [1, 0, 1, 0, 4, 1, 1, 1, 1, 4, 0, 0, 0, 1])

    def test_refusal_is_one_number(self):
        self.assertEqual(answers([0, 0, 16, 1]), [1, -22])
        self.assertEqual(answers([0, 3, 0, 0, 0, 3, 0, 1, 1, 3, 9]), [1, -22, 1, 0, 1, 0])

    def test_message_stands_without_a_count_of_its_own(self):
        given = answers([0, 1, 6, 2, 2, 1, 2, 1])
        message = message_of(6, Stream(2))
        self.assertEqual(given, [1, 0] + [217, 0] + message + [217, 0] + message)

    def test_arguments_that_look_like_calls(self):
        calls = [0, 2, 3, 1, 1, 2, 0, 1, 2, 0, 1, 2, 3, 3, 2, 3, 3, 2, 2]
        self.assertEqual(answers(calls), [1, 0, 1, 0, 1, 0, 1, 0, 4, 0, 0, 1, 3, 4, 0, 0, 1, 3])

    def test_a_thousand_calls(self):
        given = answers([0, 0, 0, 1] + [2, 0] * 999)
        self.assertEqual(len(given), 2 + 999 * 218)
        self.assertEqual(given[2:220], given[-218:])

    def test_kinds(self):
        given = answers([0, 0, 1, 2, 1, 0, 5, 3, 0, 5, 3, 0, 6, 2, 0, 0, 0, 16, 1])
        self.assertIs(type(given), list)
        self.assertEqual({type(number) for number in given}, {int})


class NothingKept(unittest.TestCase):
    CALLS = [0, 0, 1, 2, 1, 0, 5, 1, 0, 5, 1, 0, 6, 1, 0, 7, 0, 0, 16, 1, 2, 0, 3, 0, 5, 3, 0, 7]

    def test_the_list_handed_in_is_the_same_afterwards(self):
        calls = list(self.CALLS)
        answers(calls)
        self.assertEqual(calls, self.CALLS)

    def test_the_list_is_not_changed_for_a_while_either(self):
        class Untouched(list):
            def refuse(self, *given):
                raise AssertionError("the list handed in was changed")

            append = extend = insert = pop = remove = clear = sort = reverse = refuse
            __setitem__ = __delitem__ = __iadd__ = __imul__ = refuse

        self.assertEqual(answers(Untouched(self.CALLS)), answers(self.CALLS))

    def test_the_same_list_gives_the_same_answers(self):
        first = answers(self.CALLS)
        answers([0, 0, 3, 4, 1, 0, 5, 0, 1, 2, 3, 1, 1, 9])
        self.assertEqual(answers(self.CALLS), first)

    def test_answers_are_a_list_of_their_own(self):
        first = answers(self.CALLS)
        kept = list(first)
        first.clear()
        self.assertEqual(answers(self.CALLS), kept)


if __name__ == "__main__":
    unittest.main()
