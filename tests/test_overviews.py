"""tally, count, record and seen: what they answer, and each refusal."""

import unittest

from helper import (
    MOST, MOST_LONG, ask, back, contents, count, kept, last, merge, put, record, remark, rule, seen, stamp, stands,
    tally, write,
)


def tallied(*calls, doc=2, j=0):
    return last(*calls, tally(j, doc))


class TallyTest(unittest.TestCase):
    def test_without_records(self):
        for j in range(3):
            for doc in (0, 15):
                self.assertEqual(last(tally(j, doc)), [0, 0, 0, 0, 0, 0, 0])

    def test_each_state(self):
        work = [write(0, seg, 10, 2, seg, 1 + seg % 3, "", "") for seg in range(6)]
        self.assertEqual(tallied(*work), [6, 0, 2, 2, 2, 0, 0])
        work = work + [rule(0, 9, 11, 2, 0, 4), rule(0, 9, 12, 2, 1, 1), rule(0, 9, 13, 2, 2, 4), back(0, 9, 14, 2, 3)]
        self.assertEqual(tallied(*work), [6, 1, 1, 1, 1, 2, 0])

    def test_remarks_alone_do_not_count(self):
        work = [remark(0, 1, 10, 2, 3, "r")]
        self.assertEqual(tallied(*work), [0, 0, 0, 0, 0, 0, 0])
        self.assertEqual(tallied(*work, write(0, 1, 11, 2, 3, 2, "", "")), [1, 0, 0, 1, 0, 0, 0])
        self.assertEqual(tallied(*work, write(0, 1, 11, 2, 4, 2, "", "")), [1, 0, 0, 1, 0, 0, 0])

    def test_taken_back(self):
        work = [write(0, 1, 10, 2, 3, 2, "", ""), back(0, 1, 11, 2, 3)]
        self.assertEqual(tallied(*work), [1, 1, 0, 0, 0, 0, 0])
        self.assertEqual(tallied(*work, write(0, 1, 12, 2, 3, 3, "", "")), [1, 0, 0, 0, 1, 0, 0])

    def test_in_conflict(self):
        work = [put(0, stamp(10, who), 1, 2, 3, 1 + who, [], "", "") for who in (2, 0, 1)]
        self.assertEqual(tallied(*work[:1]), [1, 0, 0, 0, 1, 0, 0])
        self.assertEqual(tallied(*work[:2]), [1, 0, 0, 0, 1, 0, 1])
        self.assertEqual(tallied(*work), [1, 0, 0, 0, 1, 0, 1])
        self.assertEqual(tallied(*work[1:]), [1, 0, 0, 1, 0, 0, 1])
        self.assertEqual(tallied(*work, write(0, 5, 11, 2, 3, 1, "", "")), [1, 0, 1, 0, 0, 0, 0])

    def test_in_conflict_where_nothing_stands(self):
        work = [write(0, 1, 10, 2, 3, 2, "", "")]
        work = work + [put(0, stamp(11, who), 3, 2, 3, 0, [stamp(10, 1)]) for who in (4, 5)]
        self.assertEqual(tallied(*work), [1, 1, 0, 0, 0, 0, 1])

    def test_a_taking_back_beside_an_approval(self):
        work = [write(0, 1, 10, 2, 3, 2, "", ""), put(0, stamp(11, 4), 3, 2, 3, 0, [stamp(10, 1)])]
        self.assertEqual(tallied(*work, put(0, stamp(11, 3), 2, 2, 3, 4, [stamp(10, 1)])), [1, 0, 0, 0, 0, 1, 1])

    def test_other_documents_and_journals(self):
        work = [write(0, 1, 10, 1, 2, 1, "", ""), write(0, 2, 10, 15, 2, 2, "", ""),
                write(0, 3, 10, 15, 65535, 2, "", ""), write(1, 1, 10, 2, 3, 3, "", ""),
                put(0, stamp(11, 9), 1, 15, 2, 1)]
        self.assertEqual(tallied(*work, doc=2), [0] * 7)
        self.assertEqual(tallied(*work, doc=1), [1, 0, 1, 0, 0, 0, 0])
        self.assertEqual(tallied(*work, doc=15), [2, 0, 0, 2, 0, 0, 1])
        self.assertEqual(tallied(*work, doc=2, j=1), [1, 0, 0, 0, 1, 0, 0])
        self.assertEqual(tallied(*work, doc=15, j=1), [0] * 7)
        self.assertEqual(tallied(*work, doc=2, j=2), [0] * 7)

    def test_many_segments(self):
        work = [write(0, 1, 10 + seg, 2, seg, 1 + seg % 3, "", "") for seg in range(256)]
        self.assertEqual(tallied(*work), [256, 0, 86, 85, 85, 0, 0])

    def test_refusals(self):
        for doc in (16, MOST):
            self.assertEqual(last(tally(0, doc)), [-6])
            self.assertEqual(last(tally(3, doc)), [-6])
        for j in (3, MOST):
            self.assertEqual(last(tally(j, 15)), [-1])


class CountTest(unittest.TestCase):
    def test_how_many(self):
        work = [write(0, 1, 10, 2, 3, 2, "", ""), rule(0, 2, 11, 2, 3, 4), remark(0, 3, 12, 9, 9, "r"),
                back(0, 4, 13, 2, 3), write(1, 1, 10, 2, 3, 2, "", "")]
        for many in range(6):
            self.assertEqual(last(*work[:many], count(0)), [min(many, 4)])
        self.assertEqual(ask(*work, count(1), count(2))[5:], [[1], [0]])

    def test_refused_calls_do_not_count(self):
        self.assertEqual(last(write(0, 1, 10, 2, 3, 4, "", ""), rule(0, 1, 11, 2, 3, 1), count(0)), [0])

    def test_a_full_journal(self):
        work = [remark(2, 1, tick, 0, 0, "r") for tick in range(257)]
        self.assertEqual(last(*work[:256], count(2)), [256])
        self.assertEqual(last(*work, count(2)), [256])

    def test_refusals(self):
        for j in (3, MOST):
            self.assertEqual(last(count(j)), [-1])


class RecordTest(unittest.TestCase):
    WORK = [
        write(0, 5, 40, 2, 3, 2, "{+1}s", "t{+1}"), remark(0, 1, 3, 15, 65535, "\u20ac{{"),
        put(0, stamp(40, 4), 1, 2, 3, 3, [], "", "u"), write(0, 9, 41, 2, 3, 1, "v", ""), rule(0, 8, 42, 2, 3, 4),
        back(0, 9, 43, 2, 3), write(1, 1, 1, 1, 1, 1, "other", "journal"),
    ]
    KEPT = [
        (stamp(3, 1), 4, 15, 65535, 0, [], "\u20ac{{", ""), (stamp(40, 4), 1, 2, 3, 3, [], "u", ""),
        (stamp(40, 5), 1, 2, 3, 2, [], "t{+1}", "{+1}s"),
        (stamp(41, 9), 1, 2, 3, 1, [stamp(40, 4), stamp(40, 5)], "", "v"),
        (stamp(42, 8), 2, 2, 3, 4, [stamp(41, 9)], "", ""), (stamp(43, 9), 3, 2, 3, 0, [stamp(42, 8)], "", ""),
    ]

    def test_records_in_order_with_over_and_both_texts(self):
        for k, (number, kind, doc, seg, state, over, row, source) in enumerate(self.KEPT):
            self.assertEqual(last(*self.WORK, record(0, k, 0)), kept(number, kind, doc, seg, state, over, row))
            self.assertEqual(last(*self.WORK, record(0, k, 1)), kept(number, kind, doc, seg, state, over, source))
        self.assertEqual(last(*self.WORK, record(1, 0, 1)), kept(stamp(1, 1), 1, 1, 1, 1, [], "other"))

    def test_numbers_one_by_one(self):
        self.assertEqual(last(*self.WORK, record(0, 3, 1)),
                         [0, 41 * 256 + 9, 1, 2, 3, 1, 2, 40 * 256 + 4, 40 * 256 + 5, 1, 118])
        self.assertEqual(last(*self.WORK, record(0, 4, 0)), [0, 42 * 256 + 8, 2, 2, 3, 4, 1, 41 * 256 + 9, 0])

    def test_over_16(self):
        work = [put(0, stamp(10, who), 1, 2, 3, 1) for who in range(16)] + [write(0, 1, 11, 2, 3, 1, "", "t")]
        over = [stamp(10, who) for who in range(16)]
        self.assertEqual(last(*work, record(0, 16)), [0, stamp(11, 1), 1, 2, 3, 1, 16] + over + [1, 116])

    def test_behind_the_last_one(self):
        for k in (6, 7, MOST):
            for which in (0, 1):
                self.assertEqual(last(*self.WORK, record(0, k, which)), [-2])
        self.assertEqual(last(*self.WORK, record(1, 1)), [-2])
        self.assertEqual(last(*self.WORK, record(2, 0)), [-2])

    def test_refusals(self):
        for which in (2, MOST):
            self.assertEqual(last(*self.WORK, record(0, 0, which)), [-1])
            self.assertEqual(last(*self.WORK, record(0, 9, which)), [-1])
        for j in (3, MOST):
            self.assertEqual(last(*self.WORK, record(j, 0, 0)), [-1])
            self.assertEqual(last(*self.WORK, record(j, 9, 0)), [-1])

    def test_what_was_told_is_not_what_is_kept(self):
        self.assertEqual(contents(*self.WORK, *[record(0, k, 1) for k in range(6)], stands(0, 2, 3)),
                         contents(*self.WORK))


class SeenTest(unittest.TestCase):
    def seen_all(self, numbers, *work):
        """All pairs of these stamps of which the later one has seen the earlier one."""
        pairs = [(a, b) for b in range(len(numbers)) for a in range(len(numbers))]
        found = ask(*work, *[seen(0, numbers[a], numbers[b]) for a, b in pairs])[len(work):]
        self.assertTrue(all(answer in ([0], [1]) for answer in found))
        return [pair for pair, answer in zip(pairs, found) if answer == [1]]

    def test_itself(self):
        for call in (write(0, 1, 10, 2, 3, 1, "", ""), remark(0, 1, 10, 2, 3, "r")):
            self.assertEqual(last(call, seen(0, stamp(10, 1), stamp(10, 1))), [1])

    def test_through_one_and_through_several(self):
        work = [write(0, 1, 10, 2, 3, 1, "", ""), rule(0, 2, 11, 2, 3, 4), back(0, 3, 12, 2, 3),
                write(0, 4, 13, 2, 3, 1, "", "")]
        numbers = [stamp(10 + k, 1 + k) for k in range(4)]
        self.assertEqual(self.seen_all(numbers, *work), [(a, b) for b in range(4) for a in range(4) if a <= b])

    def test_across_two_branches(self):
        work = [
            put(0, stamp(1, 0), 1, 2, 3, 1), put(0, stamp(2, 1), 1, 2, 3, 1, [stamp(1, 0)]),
            put(0, stamp(2, 2), 2, 2, 3, 1, [stamp(1, 0)]), put(0, stamp(3, 1), 2, 2, 3, 1, [stamp(2, 1)]),
            put(0, stamp(3, 2), 3, 2, 3, 0, [stamp(2, 2)]), put(0, stamp(4, 0), 1, 2, 3, 1, [stamp(3, 1), stamp(3, 2)]),
            put(0, stamp(2, 9), 1, 2, 3, 1),
        ]
        numbers = [stamp(1, 0), stamp(2, 1), stamp(2, 2), stamp(3, 1), stamp(3, 2), stamp(4, 0), stamp(2, 9)]
        expected = [(0, 0), (0, 1), (1, 1), (0, 2), (2, 2), (0, 3), (1, 3), (3, 3), (0, 4), (2, 4), (4, 4)]
        expected = expected + [(a, 5) for a in range(6)] + [(6, 6)]
        self.assertEqual(self.seen_all(numbers, *work), expected)

    def test_each_of_16_that_it_is_over(self):
        work = [put(0, stamp(10, who), 1, 2, 3, 1) for who in range(17)] + [write(0, 1, 11, 2, 3, 1, "", "")]
        found = ask(*work, *[seen(0, stamp(10, who), stamp(11, 1)) for who in range(17)])[18:]
        self.assertEqual(found, [[0]] + [[1]] * 16)

    def test_remarks(self):
        work = [remark(0, 1, 1, 2, 3, "r"), write(0, 2, 2, 2, 3, 1, "", ""), remark(0, 3, 3, 2, 3, "r"),
                rule(0, 4, 4, 2, 3, 1)]
        numbers = [stamp(k, k) for k in (1, 2, 3, 4)]
        self.assertEqual(self.seen_all(numbers, *work), [(0, 0), (1, 1), (2, 2), (1, 3), (3, 3)])

    def test_other_segments(self):
        work = [write(0, 1, 1, 2, 3, 1, "", ""), write(0, 1, 2, 2, 4, 1, "", ""), write(0, 1, 3, 2, 3, 1, "", "")]
        self.assertEqual(self.seen_all([stamp(k, 1) for k in (1, 2, 3)], *work), [(0, 0), (1, 1), (0, 2), (2, 2)])

    def test_a_chain_of_250(self):
        work = [write(0, 1, 0, 2, 3, 1, "", "")] + [rule(0, 2, tick, 2, 3, 1) for tick in range(1, 250)]
        first = stamp(0, 1)
        end = stamp(249, 2)
        middle = stamp(125, 2)
        found = ask(*work, seen(0, first, end), seen(0, end, first), seen(0, middle, end), seen(0, first, middle),
                    seen(0, end, middle), count(0))[250:]
        self.assertEqual(found, [[1], [0], [1], [1], [0], [250]])

    def test_many_ways_through(self):
        """Each target is over the 16 before it, so that there are more ways than could be gone one by one."""
        work = [
            put(0, stamp(tick, 0), 1, 2, 3, 1, [stamp(below, 0) for below in range(max(1, tick - 16), tick)])
            for tick in range(1, 256)
        ]
        found = ask(put(0, stamp(0, 7), 1, 2, 3, 1), *work, seen(0, stamp(1, 0), stamp(255, 0)),
                    seen(0, stamp(0, 7), stamp(255, 0)), seen(0, stamp(255, 0), stamp(1, 0)))
        self.assertEqual(found, [[1]] * 256 + [[1], [0], [0]])

    def test_stamps_that_are_not_there(self):
        work = [write(0, 1, 10, 2, 3, 1, "", ""), write(1, 2, 10, 2, 3, 1, "", "")]
        there = stamp(10, 1)
        for absent in (0, there - 1, there + 1, stamp(10, 2), 2 ** 48, 2 ** 48 + there, MOST_LONG):
            self.assertEqual(ask(*work, seen(0, absent, there), seen(0, there, absent), seen(0, absent, absent))[2:],
                             [[-2], [-2], [-2]])

    def test_stamps_at_their_bounds(self):
        work = [put(0, 0, 1, 2, 3, 1), put(0, 2 ** 48 - 1, 3, 2, 3, 0, [0])]
        self.assertEqual(ask(*work, seen(0, 0, 2 ** 48 - 1), seen(0, 2 ** 48 - 1, 0))[2:], [[1], [0]])

    def test_refusals(self):
        work = [write(0, 1, 10, 2, 3, 1, "", "")]
        for j in (3, MOST):
            self.assertEqual(last(*work, seen(j, stamp(10, 1), stamp(10, 1))), [-1])
            self.assertEqual(last(*work, seen(j, 5, MOST_LONG)), [-1])
        self.assertEqual(last(*work, seen(1, stamp(10, 1), stamp(10, 1))), [-2])

    def test_after_a_merge(self):
        work = [write(0, 1, 10, 2, 3, 1, "", ""), merge(1, 0), rule(1, 2, 11, 2, 3, 4), merge(0, 1)]
        self.assertEqual(ask(*work, seen(0, stamp(10, 1), stamp(11, 2)), seen(0, stamp(11, 2), stamp(10, 1)))[4:],
                         [[1], [0]])


if __name__ == "__main__":
    unittest.main()
