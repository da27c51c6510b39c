"""Each call at ordinary inputs, and the form of calls and answers."""

import unittest

from asking import AGAIN, ARC, BEHIND, ENDLESS, FINAL, FOLLOW, HOLDS, JOIN, KEEP, LATER, NEW, NEXT, SIZE, STATE, TURN
from asking import apart, built, flat, last_of, net, numbers_of, size_of, told_of, word_of
from turnwords.nets import answers

MADE = ((JOIN, 1, 0, 0), (FOLLOW, 1, 0, 0), (AGAIN, 1, 0), (BEHIND, 1, 0, 0), (KEEP, 1, 0))
# Turns a into b, aa into bb, and so on, and at the end writes one c or more: endlessly many words each time.
LONG = built(0, 3, [2], [(0, "a", "b", 0), (0, "", "c", 2), (2, "", "c", 2)])


class FormTest(unittest.TestCase):
    def test_form_of_new_and_state(self):
        self.assertEqual(answers([1, 0, 2, 0]), [1, 0, 1, 1])

    def test_form_of_each_call(self):
        calls = [1, 0, 2, 0, 3, 0, 1, 1, 4, 0, 0, 97, -1, 1, 5, 0, 6, 1, 0, 0, 7, 2, 1, 0, 8, 3, 2]
        self.assertEqual(answers(calls), [1, 0, 1, 1, 1, 0, 1, 0, 1, 0, 1, 0, 1, 0, 1, 0])

    def test_form_of_behind_and_keep(self):
        self.assertEqual(answers([1, 0, 9, 1, 0, 0, 10, 2, 1]), [1, 0, 1, 0, 1, 0])

    def test_form_of_size(self):
        self.assertEqual(answers([1, 0, 11, 0]), [1, 0, 5, 0, 2, 1, 0, 0])
        self.assertEqual(answers([1, 0, 2, 0, 4, 0, 0, 1, 2, 0, 11, 0])[-6:], [5, 0, 2, 2, 1, 0])

    def test_form_of_next(self):
        self.assertEqual(told_of(LONG + [(NEXT, 0, b"")])[-1], [1, 0, 1, 99])
        self.assertEqual(answers(flat(LONG) + [12, 0, 2, 97, 97])[-7:], [6, 3, 0, 3, 98, 98, 99])
        self.assertEqual(answers(flat(LONG) + [12, 0, 1, 98])[-3:], [0, 1, -4])

    def test_form_of_later(self):
        self.assertEqual(answers(flat(LONG) + [13, 0, 2, 97, 97, 3, 98, 98, 99])[-8:], [7, 4, 0, 4, 98, 98, 99, 99])
        self.assertEqual(answers(flat(LONG) + [13, 0, 2, 97, 97, 0])[-7:], [6, 3, 0, 3, 98, 98, 99])
        self.assertEqual(answers(flat(LONG) + [13, 0, 1, 98, 0])[-3:], [0, 1, -4])

    def test_form_of_the_empty_word(self):
        self.assertEqual(answers([1, 0, 3, 0, 0, 1, 12, 0, 0]), [1, 0, 1, 0, 1, 0])
        self.assertEqual(answers([1, 0, 3, 0, 0, 1, 12, 0, 0, 13, 0, 0, 0]), [1, 0, 1, 0, 1, 0, 1, -4])

    def test_form_of_holds(self):
        self.assertEqual(answers(flat(LONG) + [14, 0, 1, 97, 2, 98, 99])[-2:], [1, 1])
        self.assertEqual(answers(flat(LONG) + [14, 0, 1, 97, 2, 98, 98])[-2:], [1, 0])
        self.assertEqual(answers(flat(LONG) + [14, 0, 0, 0])[-2:], [1, 0])

    def test_form_of_endless(self):
        self.assertEqual(answers(flat(LONG) + [15, 0, 1, 97])[-2:], [1, 1])
        self.assertEqual(answers(flat(LONG) + [15, 0, 1, 98])[-2:], [1, 0])

    def test_calls_behind_calls_with_rows(self):
        calls = LONG + [(NEXT, 0, b"a"), (STATE, 0), (LATER, 0, b"", b""), (HOLDS, 0, b"", b"c"), (SIZE, 0),
                        (ENDLESS, 0, b"aa"), (STATE, 0), (NEXT, 0, b"x"), (LATER, 0, b"", b"x"), (STATE, 0)]
        self.assertEqual(told_of(calls)[len(LONG):], [[2, 0, 2, 98, 99], [3], [1, 0, 1, 99], [1], [0, 2, 4, 3, 0],
                                                      [1], [4], [-4], [2, 0, 2, 99, 99], [5]])

    def test_form_of_a_refusal(self):
        self.assertEqual(answers([2, 0]), [1, -8])
        self.assertEqual(answers([1, 6]), [1, -1])
        self.assertEqual(answers([12, 0, 0, 13, 0, 0, 0, 11, 0, 14, 6, 1, 7, 0]), [1, -8, 1, -8, 1, -8, 1, -1])
        self.assertEqual(answers([1, 0, 12, 0, 17] + [97] * 17), [1, 0, 1, -2])

    def test_whole_numbers_alone_are_answered(self):
        calls = flat([(NEW, 0), (STATE, 0), (FINAL, 0, 1, 7), (FINAL, 0, 1, 0), (STATE, 1), (JOIN, 1, 0, 0)])
        answered = answers(calls)
        self.assertIs(type(answered), list)
        self.assertEqual({type(number) for number in answered}, {int})
        asked = [(NEXT, 0, b"a"), (LATER, 0, b"a", b"b"), (HOLDS, 0, b"a", b"bc"), (HOLDS, 0, b"", b""),
                 (ENDLESS, 0, b"a"), (ENDLESS, 0, b"b"), (SIZE, 0), (NEXT, 0, b"b"), (BEHIND, 0, 0, 0), (KEEP, 0, 0)]
        self.assertEqual({type(number) for number in answers(flat(LONG + asked))}, {int})

    def test_one_call_and_400_calls(self):
        self.assertEqual(answers([1, 5]), [1, 0])
        self.assertEqual(answers([1, 5] * 400), [1, 0] * 400)
        many = [(NEW, 0)] + [(STATE, 0)] * 23 + [(ARC, 0, 23, 255, -1, 0)] * 300 + [(AGAIN, 1, 0)] * 76
        self.assertEqual(len(many), 400)
        self.assertEqual(numbers_of(many), [0] + list(range(1, 24)) + [0] * 300 + [-2] * 76)

    def test_400_calls_with_words(self):
        asked = [(LATER, 0, b"a" * 12, b"b" * 12 + b"c" * count) for count in range(5)] * 78 + [(ENDLESS, 0, b"a")]
        calls = LONG + asked
        calls += [(SIZE, 0)] * (400 - len(calls))
        told = told_of(calls)
        self.assertEqual(len(told), 400)
        five = [b"b" * 12 + b"c" * count for count in (1, 2, 3, 4)] + [None]
        self.assertEqual([word_of(answer) for answer in told[len(LONG):len(LONG) + 390]], five * 78)
        self.assertEqual(told[-1], [0, 2, 3, 3, 0])


class NothingKeptTest(unittest.TestCase):
    CALLS = flat(net(0, 3, 4) + [(TURN, 0), (JOIN, 1, 0, 0), (FOLLOW, 0, 1, 0), (AGAIN, 9, 0), (STATE, 0)]
                 + LONG + [(NEXT, 0, b"aa"), (LATER, 0, b"aa", b"bbc"), (HOLDS, 0, b"a", b"bc"), (ENDLESS, 0, b"a")]
                 + [(KEEP, 2, 0), (BEHIND, 3, 2, 0), (SIZE, 3), (NEXT, 3, b"a"), (TURN, 3), (ENDLESS, 3, b"bc")]
                 + [(LATER, 3, b"bc", b""), (NEXT, 3, b"a" * 17), (HOLDS, 3, b"", b"a" * 17), (SIZE, 4)])

    def test_the_same_list_twice(self):
        first = answers(self.CALLS)
        self.assertEqual(answers(self.CALLS), first)
        self.assertEqual(answers(list(self.CALLS)), first)

    def test_an_object_is_new_each_time(self):
        self.assertEqual(answers([1, 0, 2, 0]), [1, 0, 1, 1])
        self.assertEqual(answers([2, 0]), [1, -8])
        self.assertEqual(answers([1, 0, 2, 0]), [1, 0, 1, 1])

    def test_what_was_given_back_is_the_callers(self):
        first = answers([1, 0, 2, 0])
        first.append(5)
        self.assertEqual(answers([1, 0, 2, 0]), [1, 0, 1, 1])

    def test_what_is_handed_in_stays_as_it_is(self):
        handed = list(self.CALLS)
        answers(handed)
        self.assertEqual(handed, self.CALLS)

    def test_what_is_handed_in_is_not_changed_for_a_while_either(self):
        class Watched(list):
            def refuse(self, *rest, **named):
                raise AssertionError("what is handed in was changed")

            append = extend = insert = pop = remove = clear = sort = reverse = refuse
            __setitem__ = __delitem__ = __iadd__ = __imul__ = refuse

        self.assertEqual(answers(Watched(self.CALLS)), answers(self.CALLS))


class NewTest(unittest.TestCase):
    def test_each_place(self):
        for place in range(6):
            self.assertEqual(numbers_of([(NEW, place), (STATE, place)]), [0, 1])

    def test_no_place_has_a_machine_at_first(self):
        for place in range(6):
            others = [(NEW, other) for other in range(6) if other != place]
            self.assertEqual(last_of([(STATE, place)]), -8)
            self.assertEqual(last_of(others + [(STATE, place)]), -8)

    def test_new_where_a_net_stands(self):
        calls = net(2, 24, 100) + [(NEW, 2), (FINAL, 2, 1, 1), (ARC, 2, 0, 1, 1, 1), (STATE, 2), (FINAL, 2, 1, 1)]
        self.assertEqual(numbers_of(calls)[-5:], [0, -1, -1, 1, 0])

    def test_new_takes_the_arcs_away(self):
        full = [(ARC, 2, 0, 1, 1, 0)] * 299
        calls = [(NEW, 2)] + full + [(NEW, 2), (ARC, 2, 0, 1, 1, 0), (AGAIN, 3, 2)]
        self.assertEqual(numbers_of(calls)[-3:], [0, 0, 0])

    def test_new_where_a_made_machine_stands(self):
        for made in MADE:
            calls = net(0, 2, 1) + [made, (STATE, 1), (NEW, 1), (STATE, 1), (FINAL, 1, 1, 1), (ARC, 1, 0, 0, 0, 1)]
            self.assertEqual(numbers_of(calls)[-5:], [-3, 0, 1, 0, 0])

    def test_new_touches_no_other_place(self):
        calls = net(0, 3, 0) + [(NEW, 1), (STATE, 0), (STATE, 1)]
        self.assertEqual(numbers_of(calls)[-2:], [3, 1])


class BuildingTest(unittest.TestCase):
    def test_states_are_numbered_from_0_on(self):
        self.assertEqual(numbers_of([(NEW, 3)] + [(STATE, 3)] * 23), list(range(24)))

    def test_final_at_each_state(self):
        for yes in (0, 1, 2, 4294967295):
            calls = net(0, 3, 0) + [(FINAL, 0, state, yes) for state in range(3)]
            self.assertEqual(numbers_of(calls)[-3:], [0, 0, 0])

    def test_arcs_from_each_state_to_each(self):
        arcs = [(ARC, 4, start, 97, 98, to) for start in range(3) for to in range(3)]
        self.assertEqual(numbers_of(net(4, 3, 0) + arcs)[-9:], [0] * 9)

    def test_what_an_arc_may_read_and_write(self):
        for label in (-1, 0, 1, 97, 254, 255):
            for other in (-1, 0, 255):
                self.assertEqual(last_of([(NEW, 0), (ARC, 0, 0, label, other, 0)]), 0)
                self.assertEqual(last_of([(NEW, 0), (ARC, 0, 0, other, label, 0)]), 0)

    def test_the_same_arc_again_is_one_more_arc(self):
        calls = [(NEW, 0)] + [(ARC, 0, 0, 5, 5, 0)] * 301
        self.assertEqual(numbers_of(calls)[-2:], [0, -2])


class TurnTest(unittest.TestCase):
    def test_a_net_stays_one_that_is_built(self):
        calls = net(0, 3, 2) + [(TURN, 0), (STATE, 0), (FINAL, 0, 3, 1), (ARC, 0, 3, 1, -1, 0), (TURN, 0), (STATE, 0)]
        self.assertEqual(numbers_of(calls)[-6:], [0, 3, 0, 0, 0, 4])

    def test_a_made_machine_stays_one_that_is_not(self):
        for made in MADE:
            calls = net(0, 2, 1) + [made, (TURN, 1), (STATE, 1), (FINAL, 1, 0, 1), (ARC, 1, 0, 1, 1, 0)]
            self.assertEqual(numbers_of(calls)[-4:], [0, -3, -3, -3])

    def test_the_two_numbers_stay(self):
        calls = net(0, 24, 300) + [(TURN, 0), (STATE, 0), (ARC, 0, 0, 1, 1, 0)]
        self.assertEqual(numbers_of(calls)[-3:], [0, -2, -2])
        for arcs, number in ((298, 0), (299, -2)):
            calls = net(0, 1, arcs) + [(TURN, 0), (AGAIN, 1, 0)]
            self.assertEqual(last_of(calls), number)

    def test_a_made_machine_keeps_its_two_numbers(self):
        for arcs, number in ((291, 0), (292, -2)):
            calls = net(0, 2, arcs) + [(AGAIN, 1, 0), (TURN, 1), (AGAIN, 1, 1), (TURN, 1)]
            self.assertEqual(numbers_of(calls)[-4:], [0, 0, 0, 0])
            self.assertEqual(last_of(calls + [(NEW, 2), (FOLLOW, 3, 2, 1)]), 0)
            self.assertEqual(last_of(calls + [(NEW, 2), (JOIN, 3, 2, 1)]), number)


class MakingTest(unittest.TestCase):
    MADE_AT_5 = ((JOIN, 5, 0, 1), (FOLLOW, 5, 0, 1), (AGAIN, 5, 0), (BEHIND, 5, 0, 1), (KEEP, 5, 0))

    def test_what_is_made_is_not_built_any_more(self):
        for made in self.MADE_AT_5:
            calls = net(0, 2, 1) + net(1, 1, 1) + [made]
            for more in ((STATE, 5), (FINAL, 5, 0, 1), (ARC, 5, 0, 97, 97, 0)):
                self.assertEqual(numbers_of(calls + [more])[-2:], [0, -3])

    def test_the_parts_stay_as_they_are(self):
        for made in self.MADE_AT_5:
            calls = net(0, 2, 1) + net(1, 4, 1) + [made, (STATE, 0), (STATE, 1), (ARC, 0, 2, 1, 1, 1)]
            self.assertEqual(numbers_of(calls)[-3:], [2, 4, 0])

    def test_what_is_made_is_made_of_the_parts_as_they_are_then(self):
        for made, just in (((JOIN, 5, 0, 1), 20), ((FOLLOW, 5, 0, 1), 21), ((AGAIN, 5, 0), 22)):
            later = [(STATE, 0)] * 20 + [(STATE, 1)] * 20
            again = [(AGAIN, 5, 5)] * 24
            calls = net(0, 1, 0) + net(1, 2, 0)
            before = numbers_of(calls + [made] + again).count(-2)
            behind = numbers_of(calls + [made] + later + again).count(-2)
            self.assertEqual((before, behind), (24 - just, 24 - just))

    def test_the_place_may_be_that_of_a_part(self):
        for made in ((JOIN, 0, 0, 1), (FOLLOW, 0, 0, 1), (JOIN, 0, 1, 0), (FOLLOW, 0, 1, 0), (AGAIN, 0, 0),
                     (BEHIND, 0, 0, 1), (BEHIND, 0, 1, 0), (KEEP, 0, 0)):
            calls = net(0, 3, 1) + net(1, 2, 1) + [made, (STATE, 0), (STATE, 1)]
            self.assertEqual(numbers_of(calls)[-3:], [0, -3, 2])

    def test_with_a_part_the_place_counts_by_what_was_made(self):
        for made, states in (((JOIN, 0, 0, 1), 6), ((FOLLOW, 0, 1, 0), 5), ((AGAIN, 0, 0), 4), ((JOIN, 0, 0, 0), 7),
                             ((BEHIND, 0, 0, 1), 6), ((BEHIND, 0, 0, 0), 9), ((KEEP, 0, 0), 3)):
            calls = net(0, 3, 1) + net(1, 2, 1) + [made]
            self.assertEqual(size_of(calls, 0)[0], states)
            self.assertEqual(numbers_of(calls + [(AGAIN, 0, 0)] * 24).count(-2), 24 - (24 - states))

    def test_the_parts_may_be_the_same(self):
        for made in ((JOIN, 1, 0, 0), (FOLLOW, 1, 0, 0), (JOIN, 0, 0, 0), (FOLLOW, 0, 0, 0)):
            self.assertEqual(last_of(net(0, 11, 1) + [made]), 0)
        self.assertEqual(last_of(net(0, 12, 1) + [(JOIN, 1, 0, 0)]), -2)
        self.assertEqual(last_of(net(0, 12, 1) + [(FOLLOW, 1, 0, 0)]), 0)

    def test_where_a_machine_stood_that_is_no_part(self):
        calls = net(0, 2, 1) + net(4, 20, 0) + [(JOIN, 4, 0, 0), (STATE, 4), (AGAIN, 4, 4), (AGAIN, 4, 4)]
        self.assertEqual(numbers_of(calls)[-4:], [0, -3, 0, 0])


class ApartTest(unittest.TestCase):
    def test_answers_are_taken_apart_by_their_counts(self):
        self.assertEqual(apart([1, 0, 2, 4, 5, 1, -3]), [[0], [4, 5], [-3]])


if __name__ == "__main__":
    unittest.main()
