"""write, rule, back and remark: what they put in, each refusal, and which of two refusals comes first."""

import unittest

from helper import (
    MOST, MOST_LONG, TICKS, RefusalCase, ask, back, head, last, next_segment, remark, rule, said, stamp, stands, told,
    write,
)

TARGET = write(0, 1, 10, 0, 0, 2, "s", "t")


class WriteTest(RefusalCase):
    def test_a_target(self):
        for state in (1, 2, 3):
            found = ask(write(0, 7, 5, 2, 3, state, "source", "target"), stands(0, 2, 3), stands(0, 2, 3, 1))
            self.assertEqual(found[0], [0])
            self.assertEqual(found[1], told(5, 7, 1, state, 1, 7, "target"))
            self.assertEqual(found[2], told(5, 7, 1, state, 1, 7, "source"))

    def test_numbers_at_their_bounds(self):
        self.taken(write(2, 255, TICKS - 1, 15, 65535, 3, "", ""))
        self.taken(write(0, 0, 0, 0, 0, 1, "", ""))
        found = last(write(2, 255, TICKS - 1, 15, 65535, 3, "", ""), stands(2, 15, 65535))
        self.assertEqual(found, [0, 2 ** 48 - 1, 1, 3, 1, 255, 0])

    def test_numbers_above_their_bounds(self):
        for above in (256, MOST):
            self.refused([-6], write(0, above, 5, 0, 0, 1, "", ""))
        for above in (TICKS, TICKS + 1, MOST_LONG):
            self.refused([-6], write(0, 1, above, 0, 0, 1, "", ""))
        for above in (16, MOST):
            self.refused([-6], write(0, 1, 5, above, 0, 1, "", ""))
        for above in (65536, MOST):
            self.refused([-6], write(0, 1, 5, 0, above, 1, "", ""))

    def test_journal_and_state(self):
        for j in (3, MOST):
            self.refused([-1], write(j, 1, 5, 0, 0, 1, "", ""))
        for state in (0, 4, 5, MOST):
            self.refused([-1], write(0, 1, 5, 0, 0, state, "", ""))

    def test_numbers_come_before_journal_and_state(self):
        self.refused([-6], write(3, 256, 5, 0, 0, 1, "", ""))
        self.refused([-6], write(3, 1, TICKS, 0, 0, 1, "", ""))
        self.refused([-6], write(0, 1, 5, 16, 0, 0, "", ""))
        self.refused([-6], write(0, 1, 5, 0, 65536, 4, "", ""))

    def test_journal_and_state_come_before_texts(self):
        self.refused([-1], write(3, 1, 5, 0, 0, 1, b"\xff", ""))
        self.refused([-1], write(0, 1, 5, 0, 0, 0, "", b"\xff"))
        self.refused([-1], write(0, 1, 5, 0, 0, 4, "a" * 4097, ""))

    def test_source_comes_before_row(self):
        self.refused([-5, 1, 1], write(0, 1, 5, 0, 0, 1, b"a\xff", b"\xff"))
        self.refused([-6], write(0, 1, 5, 0, 0, 1, "a" * 4097, b"\xff"))
        self.refused([-5, 1, 8], write(0, 1, 5, 0, 0, 1, "{.1}{.1}", b"\xff"))
        self.refused([-5, 1, 8], write(0, 1, 5, 0, 0, 1, "{.1}{.1}", "a" * 4097))
        self.refused([-5, 2, 0], write(0, 1, 5, 0, 0, 1, "{.1}", b"\xff"))
        self.refused([-6], write(0, 1, 5, 0, 0, 1, "{.1}", "a" * 4097))
        self.refused([-5, 3, 0], write(0, 1, 5, 0, 0, 1, "{.1}", "a"))

    def test_texts_come_before_stamps(self):
        for src, row, answer in ((b"\xff", "", [-5, 1, 0]), ("", b"\xff", [-5, 2, 0]), ("{.1}", "", [-5, 3, 0]),
                                 ("{+1}{-2}", "", [-5, 1, 8]), ("a" * 4097, "", [-6]), ("", "a" * 4097, [-6])):
            self.refused(answer, write(0, 1, 10, 0, 0, 1, src, row), TARGET)

    def test_a_stamp_that_is_there(self):
        self.refused([-3], write(0, 1, 10, 0, 1, 1, "", ""), TARGET)
        self.refused([-3], write(0, 1, 10, 5, 9, 1, "", ""), TARGET)
        self.refused([-3], write(0, 1, 4, 0, 0, 1, "", ""), remark(0, 1, 4, 9, 9, "a"))
        self.taken(write(0, 2, 10, 0, 1, 1, "", ""), TARGET)
        self.taken(write(1, 1, 10, 0, 0, 1, "", ""), TARGET)

    def test_a_tick_that_is_not_greater_than_a_heads(self):
        for tick in (0, 9, 10):
            for who in (0, 2, 255):
                self.refused([-3], write(0, who, tick, 0, 0, 1, "", ""), TARGET)
                self.taken(write(0, who, tick, 0, 1, 1, "", ""), TARGET)
        self.taken(write(0, 2, 11, 0, 0, 1, "", ""), TARGET)
        self.taken(write(0, 1, 11, 0, 0, 1, "", ""), TARGET)
        self.refused([-3], write(0, 3, 20, 0, 0, 1, "", ""), TARGET, rule(0, 2, 20, 0, 0, 1))
        self.refused([-3], write(0, 3, 20, 0, 0, 1, "", ""), TARGET, back(0, 2, 20, 0, 0))

    def test_remarks_are_no_heads(self):
        self.taken(write(0, 1, 5, 0, 0, 1, "", ""), remark(0, 1, 90, 0, 0, "a"))

    def test_a_target_over_a_taking_back(self):
        found = last(TARGET, back(0, 1, 11, 0, 0), write(0, 3, 12, 0, 0, 1, "u", "v"), stands(0, 0, 0))
        self.assertEqual(found, told(12, 3, 1, 1, 1, 3, "v"))

    def test_a_lesser_state_stands_if_it_is_later(self):
        found = last(write(0, 1, 1, 0, 0, 3, "", "a"), write(0, 1, 2, 0, 0, 1, "", "b"), stands(0, 0, 0))
        self.assertEqual(found, told(2, 1, 1, 1, 1, 1, "b"))

    def test_a_source_that_changes(self):
        calls = [TARGET, write(0, 2, 11, 0, 0, 1, "new {.1}", "neu {.1}")]
        self.assertEqual(last(*calls, stands(0, 0, 0, 1)), told(11, 2, 1, 1, 1, 2, "new {.1}"))


class RuleTest(RefusalCase):
    def test_a_verdict(self):
        for state in (1, 2, 3, 4):
            found = ask(TARGET, rule(0, 2, 11, 0, 0, state), stands(0, 0, 0, 0), stands(0, 0, 0, 1), head(0, 0, 0, 0))
            self.assertEqual(found[1], [0])
            self.assertEqual(found[2], told(11, 2, 2, state, 1, 1, "t"))
            self.assertEqual(found[3], told(11, 2, 2, state, 1, 1, "s"))
            self.assertEqual(found[4], found[2])

    def test_a_verdict_over_verdicts(self):
        calls = [TARGET, rule(0, 2, 11, 0, 0, 4), rule(0, 3, 12, 0, 0, 1), rule(0, 4, 13, 0, 0, 3)]
        self.assertEqual(last(*calls, stands(0, 0, 0)), told(13, 4, 2, 3, 1, 1, "t"))

    def test_a_long_chain_of_verdicts(self):
        calls = [TARGET] + [rule(0, 2, 11 + turn, 0, 0, 1 + turn % 4) for turn in range(255)]
        self.assertEqual(last(*calls, stands(0, 0, 0, 1)), told(265, 2, 2, 3, 1, 1, "s"))

    def test_numbers_at_their_bounds(self):
        self.taken(rule(2, 255, TICKS - 1, 15, 65535, 4), write(2, 254, TICKS - 2, 15, 65535, 1, "", ""))

    def test_numbers_above_their_bounds(self):
        self.refused([-6], rule(0, 256, 11, 0, 0, 1), TARGET)
        self.refused([-6], rule(0, 1, TICKS, 0, 0, 1), TARGET)
        self.refused([-6], rule(0, 1, 11, 16, 0, 1), TARGET)
        self.refused([-6], rule(0, 1, 11, 0, 65536, 1), TARGET)

    def test_journal_and_state(self):
        self.refused([-1], rule(3, 2, 11, 0, 0, 1), TARGET)
        for state in (0, 5, MOST):
            self.refused([-1], rule(0, 2, 11, 0, 0, state), TARGET)

    def test_order_of_the_first_refusals(self):
        self.refused([-6], rule(3, 256, 11, 0, 0, 0))
        self.refused([-6], rule(3, 1, TICKS, 0, 0, 1))
        self.refused([-6], rule(0, 1, 11, 16, 0, 5))
        self.refused([-6], rule(0, 1, 11, 0, 65536, 5))
        self.refused([-1], rule(0, 1, 10, 0, 0, 5), TARGET)
        self.refused([-1], rule(0, 1, 11, 0, 1, 0), TARGET)

    def test_nothing_stands(self):
        self.refused([-2], rule(0, 2, 11, 0, 0, 1))
        self.refused([-2], rule(0, 2, 11, 0, 1, 1), TARGET)
        self.refused([-2], rule(0, 2, 11, 1, 0, 1), TARGET)
        self.refused([-2], rule(1, 2, 11, 0, 0, 1), TARGET)
        self.refused([-2], rule(0, 2, 11, 0, 0, 1), remark(0, 1, 1, 0, 0, "a"))
        self.refused([-2], rule(0, 2, 12, 0, 0, 1), TARGET, back(0, 1, 11, 0, 0))

    def test_nothing_stands_comes_before_the_stamp(self):
        self.refused([-2], rule(0, 1, 10, 0, 1, 1), TARGET)
        self.refused([-2], rule(0, 1, 11, 0, 0, 1), TARGET, back(0, 1, 11, 0, 0))
        self.refused([-2], rule(0, 1, 3, 0, 0, 4), TARGET, back(0, 1, 11, 0, 0))

    def test_stamps_and_ticks(self):
        self.refused([-3], rule(0, 1, 10, 0, 0, 1), TARGET)
        self.refused([-3], rule(0, 2, 10, 0, 0, 1), TARGET)
        self.refused([-3], rule(0, 0, 10, 0, 0, 1), TARGET)
        self.refused([-3], rule(0, 2, 9, 0, 0, 1), TARGET)
        self.refused([-3], rule(0, 2, 11, 0, 0, 1), TARGET, remark(0, 2, 11, 7, 7, "a"))
        self.taken(rule(0, 2, 11, 0, 0, 1), TARGET, remark(0, 3, 11, 0, 0, "a"))

    def test_state_4_by_the_targets_hand(self):
        self.refused([-3], rule(0, 1, 11, 0, 0, 4), TARGET)
        self.taken(rule(0, 0, 11, 0, 0, 4), TARGET)
        self.taken(rule(0, 2, 11, 0, 0, 4), TARGET)
        for state in (1, 2, 3):
            self.taken(rule(0, 1, 11, 0, 0, state), TARGET)

    def test_the_hand_is_the_targets_through_verdicts(self):
        verdicts = [TARGET, rule(0, 2, 11, 0, 0, 3), rule(0, 3, 12, 0, 0, 4)]
        self.refused([-3], rule(0, 1, 13, 0, 0, 4), *verdicts)
        self.taken(rule(0, 2, 13, 0, 0, 4), *verdicts)
        self.taken(rule(0, 3, 13, 0, 0, 4), *verdicts)

    def test_the_hand_is_the_last_targets(self):
        targets = [TARGET, write(0, 2, 11, 0, 0, 1, "", "")]
        self.refused([-3], rule(0, 2, 12, 0, 0, 4), *targets)
        self.taken(rule(0, 1, 12, 0, 0, 4), *targets)


class BackTest(RefusalCase):
    def test_a_taking_back(self):
        found = ask(TARGET, back(0, 9, 11, 0, 0), stands(0, 0, 0), head(0, 0, 0, 0, 0), head(0, 0, 0, 0, 1),
                    next_segment(0, 2), next_segment(0, 0))
        self.assertEqual(found[1:], [[0], [-2], told(11, 9, 3, 0, 1, 9, ""), told(11, 9, 3, 0, 1, 9, ""), [-2],
                                     [0, 0, 0]])

    def test_a_taking_back_of_a_verdict(self):
        found = ask(TARGET, rule(0, 2, 11, 0, 0, 4), back(0, 3, 12, 0, 0), stands(0, 0, 0), head(0, 0, 0, 0))
        self.assertEqual(found[2:], [[0], [-2], told(12, 3, 3, 0, 1, 3, "")])

    def test_numbers(self):
        self.taken(back(2, 255, TICKS - 1, 15, 65535), write(2, 255, TICKS - 2, 15, 65535, 1, "", ""))
        self.refused([-6], back(0, 256, 11, 0, 0), TARGET)
        self.refused([-6], back(0, 1, TICKS, 0, 0), TARGET)
        self.refused([-6], back(0, 1, 11, 16, 0), TARGET)
        self.refused([-6], back(0, 1, 11, 0, 65536), TARGET)
        self.refused([-6], back(3, 256, 11, 0, 0), TARGET)
        self.refused([-1], back(3, 1, 11, 0, 0), TARGET)
        self.refused([-1], back(MOST, 1, 11, 0, 0))

    def test_nothing_stands(self):
        self.refused([-2], back(0, 1, 11, 0, 0))
        self.refused([-2], back(0, 1, 11, 0, 1), TARGET)
        self.refused([-2], back(0, 1, 12, 0, 0), TARGET, back(0, 1, 11, 0, 0))
        self.refused([-2], back(0, 1, 12, 0, 0), remark(0, 1, 11, 0, 0, "a"))

    def test_nothing_stands_comes_before_the_stamp(self):
        self.refused([-2], back(0, 1, 10, 0, 1), TARGET)
        self.refused([-2], back(0, 1, 11, 0, 0), TARGET, back(0, 1, 11, 0, 0))

    def test_stamps_and_ticks(self):
        self.refused([-3], back(0, 1, 10, 0, 0), TARGET)
        self.refused([-3], back(0, 2, 10, 0, 0), TARGET)
        self.refused([-3], back(0, 2, 9, 0, 0), TARGET)
        self.refused([-3], back(0, 2, 11, 0, 0), TARGET, remark(0, 2, 11, 7, 7, "a"))
        self.taken(back(0, 2, 11, 0, 0), TARGET)


class RemarkTest(RefusalCase):
    def test_a_remark(self):
        found = ask(remark(1, 4, 6, 2, 3, "Why {{so}?"), said(1, 2, 3, 0), stands(1, 2, 3), head(1, 2, 3, 0))
        self.assertEqual(found[0], [0])
        self.assertEqual(found[1], [0, stamp(6, 4), 10] + list(b"Why {{so}?"))
        self.assertEqual(found[2:], [[-2], [-2]])

    def test_numbers(self):
        self.taken(remark(2, 255, TICKS - 1, 15, 65535, "a"))
        self.taken(remark(0, 0, 0, 0, 0, "a"))
        self.refused([-6], remark(0, 256, 1, 0, 0, "a"))
        self.refused([-6], remark(0, 1, TICKS, 0, 0, "a"))
        self.refused([-6], remark(0, 1, 1, 16, 0, "a"))
        self.refused([-6], remark(0, 1, 1, 0, 65536, "a"))
        self.refused([-6], remark(3, 256, 1, 0, 0, ""))
        self.refused([-1], remark(3, 1, 1, 0, 0, "a"))
        self.refused([-1], remark(3, 1, 1, 0, 0, b"\xff"))

    def test_texts(self):
        self.refused([-5, 2, 1], remark(0, 1, 1, 0, 0, b"a\xff"))
        self.refused([-5, 2, 4], remark(0, 1, 1, 0, 0, b"{.1}\xff"))
        self.refused([-5, 4, 0], remark(0, 1, 1, 0, 0, "{.1}"))
        self.refused([-5, 4, 5], remark(0, 1, 1, 0, 0, "\u20ac{{{+1}{-1}"))
        self.refused([-5, 4, 1], remark(0, 1, 1, 0, 0, "a{-999}{.2}"))
        self.refused([-5, 5, 0], remark(0, 1, 1, 0, 0, ""))
        self.refused([-6], remark(0, 1, 1, 0, 0, "a" * 4097))

    def test_texts_come_before_stamps(self):
        for row, answer in ((b"\xff", [-5, 2, 0]), ("a" * 4097, [-6]), ("{.1}", [-5, 4, 0]), ("", [-5, 5, 0])):
            self.refused(answer, remark(0, 1, 10, 0, 0, row), TARGET)

    def test_stamps_but_no_ticks(self):
        self.refused([-3], remark(0, 1, 10, 0, 0, "a"), TARGET)
        self.refused([-3], remark(0, 1, 10, 8, 8, "a"), TARGET)
        self.refused([-3], remark(0, 1, 10, 0, 0, "b"), remark(0, 1, 10, 0, 0, "a"))
        self.taken(remark(0, 2, 10, 0, 0, "a"), TARGET)
        self.taken(remark(0, 1, 3, 0, 0, "a"), TARGET)
        self.taken(remark(0, 1, 3, 0, 0, "a"), remark(0, 1, 9, 0, 0, "b"))


class BoundTest(RefusalCase):
    def full(self):
        """256 records: a target, verdicts on it, remarks."""
        calls = [TARGET]
        calls = calls + [rule(0, 2, 11 + turn, 0, 0, 1) for turn in range(100)]
        return calls + [remark(0, 3, 11 + turn, 0, 0, "a") for turn in range(155)]

    def test_256_records(self):
        found = ask(*self.full())
        self.assertEqual(found, [[0]] * 256)
        self.taken(write(0, 4, 500, 0, 0, 1, "", ""), *self.full()[:-1])

    def test_one_record_more(self):
        for call in (write(0, 4, 500, 0, 0, 1, "", ""), write(0, 4, 500, 9, 9, 1, "", ""), rule(0, 4, 500, 0, 0, 1),
                     back(0, 4, 500, 0, 0), remark(0, 4, 500, 0, 0, "a")):
            self.refused([-6], call, *self.full())

    def test_the_other_journals_have_room(self):
        self.taken(write(1, 4, 500, 0, 0, 1, "", ""), *self.full())
        self.taken(remark(2, 4, 500, 0, 0, "a"), *self.full())

    def test_the_other_refusals_come_before_a_full_journal(self):
        full = self.full()
        self.refused([-1], write(0, 4, 500, 0, 0, 4, "", ""), *full)
        self.refused([-5, 1, 0], write(0, 4, 500, 0, 0, 1, b"\xff", ""), *full)
        self.refused([-3], write(0, 4, 5, 0, 0, 1, "", ""), *full)
        self.refused([-2], rule(0, 4, 500, 0, 1, 1), *full)
        self.refused([-3], rule(0, 1, 500, 0, 0, 4), *full)
        self.refused([-3], rule(0, 4, 110, 0, 0, 1), *full)
        self.refused([-2], back(0, 4, 500, 0, 1), *full)
        self.refused([-3], back(0, 4, 110, 0, 0), *full)
        self.refused([-5, 5, 0], remark(0, 4, 500, 0, 0, ""), *full)
        self.refused([-3], remark(0, 3, 11, 0, 0, "a"), *full)

    def pieces(self, most):
        """Records of so many pieces in all, 16383 at the least: sources, rows and a remark. More than the numbers
        that a list of the interface has; the words tell the bound all the same."""
        calls = [write(0, 1, 1, 0, 0, 1, "a" * 4096, "b" * 4096), write(0, 1, 2, 0, 0, 1, "c{{" * 2048, "")]
        return calls + [remark(0, 1, 3, 0, 0, "d" * (most - 3 * 4096))]

    def test_16384_pieces(self):
        self.assertEqual(ask(*self.pieces(16384)), [[0]] * 3)
        self.taken(write(0, 2, 9, 0, 0, 1, "", ""), *self.pieces(16384))
        self.taken(rule(0, 2, 9, 0, 0, 4), *self.pieces(16384))
        self.taken(back(0, 2, 9, 0, 0), *self.pieces(16384))
        self.taken(remark(0, 2, 9, 0, 0, "{{"), *self.pieces(16383))
        self.taken(write(0, 2, 9, 0, 0, 1, "\u20ac", ""), *self.pieces(16383))
        self.taken(write(0, 2, 9, 0, 0, 1, "", "a"), *self.pieces(16383))

    def test_one_piece_more(self):
        self.refused([-6], write(0, 2, 9, 0, 0, 1, "a", ""), *self.pieces(16384))
        self.refused([-6], write(0, 2, 9, 0, 0, 1, "", "a"), *self.pieces(16384))
        self.refused([-6], remark(0, 2, 9, 0, 0, "a"), *self.pieces(16384))
        self.refused([-6], write(0, 2, 9, 0, 0, 1, "a", "b"), *self.pieces(16383))
        self.refused([-6], write(0, 2, 9, 0, 0, 1, "{.1}", "{.1}"), *self.pieces(16383))
        self.refused([-6], remark(0, 2, 9, 0, 0, "ab"), *self.pieces(16383))
        self.refused([-3], remark(0, 1, 1, 0, 0, "a"), *self.pieces(16384))
        for none in (rule(0, 2, 8, 0, 0, 4), back(0, 2, 8, 0, 0), write(0, 2, 8, 0, 0, 1, "", "")):
            self.refused([-6], remark(0, 2, 9, 0, 0, "a"), *self.pieces(16384), none)
        self.taken(remark(1, 2, 9, 0, 0, "a"), *self.pieces(16384))


if __name__ == "__main__":
    unittest.main()
