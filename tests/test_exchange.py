"""put, merge and lacks: what they answer and put in, each refusal, and which of two refusals comes first."""

import unittest

from helper import (
    MOST, MOST_LONG, RefusalCase, ask, back, contents, count, head, kept, lacks, last, merge, next_segment, put, record,
    remark, rule, said, stamp, stands, told, write,
)

STAMPS = 2 ** 48
FIRST = stamp(10, 1)
TARGET = put(0, FIRST, 1, 2, 3, 2, [], "s", "t")
VERDICT = put(0, stamp(11, 2), 2, 2, 3, 3, [FIRST])
BACK = put(0, stamp(12, 3), 3, 2, 3, 0, [stamp(11, 2)])
REMARK = put(0, stamp(13, 4), 4, 2, 3, 0, [], "", "r")
ALL = [TARGET, VERDICT, BACK, REMARK]


def targets(many, tick=10, j=0):
    """So many targets of one segment, none of which has seen another."""
    return [put(j, stamp(tick, who), 1, 2, 3, 1, [], "", "t%d" % who) for who in range(many)]


def stamps(first, behind, tick=10):
    return [stamp(tick, who) for who in range(first, behind)]


def remarks(many, j=0, first=0):
    return [remark(j, 9, tick, 2, 3, "r") for tick in range(first, first + many)]


def pieces(j, tick, most):
    """Records of so many pieces in all, 12288 at the least; more bytes than a list of the interface has."""
    calls = [put(j, stamp(tick, 1), 1, 2, 3, 1, [], "a" * 4096, "b" * 4096)]
    calls.append(put(j, stamp(tick, 2), 1, 2, 3, 1, [], "{{" * 4096, ""))
    if most > 12288:
        calls.append(put(j, stamp(tick, 3), 4, 2, 3, 0, [], "", "d" * (most - 12288)))
    return calls


class PutCase(RefusalCase):
    good = [1]


class PutKindsTest(PutCase):
    def test_each_kind(self):
        found = ask(*ALL, *[record(0, k, which) for k in range(4) for which in (0, 1)], stands(0, 2, 3),
                    head(0, 2, 3, 0), said(0, 2, 3, 0), count(1), count(2))
        self.assertEqual(found[:4], [[1]] * 4)
        self.assertEqual(found[4:12], [
            kept(FIRST, 1, 2, 3, 2, [], "t"), kept(FIRST, 1, 2, 3, 2, [], "s"),
            kept(stamp(11, 2), 2, 2, 3, 3, [FIRST], ""), kept(stamp(11, 2), 2, 2, 3, 3, [FIRST], ""),
            kept(stamp(12, 3), 3, 2, 3, 0, [stamp(11, 2)], ""), kept(stamp(12, 3), 3, 2, 3, 0, [stamp(11, 2)], ""),
            kept(stamp(13, 4), 4, 2, 3, 0, [], "r"), kept(stamp(13, 4), 4, 2, 3, 0, [], ""),
        ])
        self.assertEqual(found[12:], [[-2], told(12, 3, 3, 0, 1, 3, ""), [0, stamp(13, 4), 1, 114], [0], [0]])

    def test_states_of_a_target(self):
        for state in (1, 2, 3):
            self.taken(put(0, FIRST, 1, 2, 3, state))
            self.assertEqual(last(put(0, FIRST, 1, 2, 3, state), stands(0, 2, 3)), told(10, 1, 1, state, 1, 1, ""))
        for state in (0, 4, 5, MOST):
            self.refused([-1], put(0, FIRST, 1, 2, 3, state))

    def test_states_of_a_verdict(self):
        for state in (1, 2, 3, 4):
            verdict = put(0, stamp(11, 2), 2, 2, 3, state, [FIRST])
            self.taken(verdict, TARGET)
            self.assertEqual(last(TARGET, verdict, stands(0, 2, 3)), told(11, 2, 2, state, 1, 1, "t"))
        for state in (0, 5, MOST):
            self.refused([-1], put(0, stamp(11, 2), 2, 2, 3, state, [FIRST]), TARGET)

    def test_states_of_a_taking_back(self):
        self.taken(put(0, stamp(11, 2), 3, 2, 3, 0, [FIRST]), TARGET)
        for state in (1, 2, 3, 4, MOST):
            self.refused([-1], put(0, stamp(11, 2), 3, 2, 3, state, [FIRST]), TARGET)

    def test_states_of_a_remark(self):
        self.taken(put(0, FIRST, 4, 2, 3, 0, [], "", "r"))
        for state in (1, 2, 3, 4, MOST):
            self.refused([-1], put(0, FIRST, 4, 2, 3, state, [], "", "r"))

    def test_no_such_kind(self):
        for kind in (0, 5, 6, MOST):
            for state in (0, 1):
                for over in ([], [FIRST]):
                    self.refused([-1], put(0, stamp(11, 2), kind, 2, 3, state, over), TARGET)

    def test_how_many_a_target_is_over(self):
        for many in (0, 1, 2, 15, 16):
            call = put(0, stamp(11, 0), 1, 2, 3, 1, stamps(0, many))
            self.taken(call, *targets(17))
            self.assertEqual(last(*targets(17), call, record(0, 17)),
                             kept(stamp(11, 0), 1, 2, 3, 1, stamps(0, many), ""))
        for many in (17, 18, 100):
            self.refused([-1], put(0, stamp(11, 0), 1, 2, 3, 1, stamps(0, many)), *targets(100))

    def test_how_many_a_verdict_is_over(self):
        self.taken(put(0, stamp(11, 0), 2, 2, 3, 1, stamps(0, 1)), *targets(17))
        for many in (0, 2, 16, 17, 100):
            self.refused([-1], put(0, stamp(11, 0), 2, 2, 3, 1, stamps(0, many)), *targets(17))

    def test_how_many_a_taking_back_is_over(self):
        for many in (1, 2, 15, 16):
            self.taken(put(0, stamp(11, 0), 3, 2, 3, 0, stamps(0, many)), *targets(17))
        for many in (0, 17, 18, 100):
            self.refused([-1], put(0, stamp(11, 0), 3, 2, 3, 0, stamps(0, many)), *targets(17))

    def test_a_remark_is_over_none(self):
        self.taken(put(0, stamp(11, 0), 4, 2, 3, 0, [], "", "r"), *targets(2))
        for many in (1, 2, 16, 17):
            self.refused([-1], put(0, stamp(11, 0), 4, 2, 3, 0, stamps(0, many), "", "r"), *targets(2))

    def test_over_rises(self):
        one, two, three = stamps(0, 3)
        for over in ([one, one], [two, one], [one, three, two], [two, one, three], [one, two, two], [one, one, two],
                     [one, two, one], list(reversed(stamps(0, 16)))):
            self.refused([-1], put(0, stamp(11, 0), 1, 2, 3, 1, over), *targets(16))
            self.refused([-1], put(0, stamp(11, 0), 3, 2, 3, 0, over), *targets(16))
        for over in ([one, two, three], [one, three], [two]):
            self.taken(put(0, stamp(11, 0), 1, 2, 3, 1, over), *targets(3))
            self.taken(put(0, stamp(11, 0), 3, 2, 3, 0, over), *targets(3))


class PutNumbersTest(PutCase):
    def test_numbers_at_their_bounds(self):
        self.taken(put(2, STAMPS - 1, 1, 15, 65535, 3))
        self.taken(put(0, 0, 1, 0, 0, 1))
        self.assertEqual(last(put(2, STAMPS - 1, 1, 15, 65535, 3), record(2, 0)),
                         kept(STAMPS - 1, 1, 15, 65535, 3, [], ""))
        self.assertEqual(last(put(0, 0, 1, 0, 0, 1), stands(0, 0, 0)), told(0, 0, 1, 1, 1, 0, ""))

    def test_numbers_above_their_bounds(self):
        for above in (STAMPS, STAMPS + 1, MOST_LONG):
            self.refused([-6], put(0, above, 1, 2, 3, 1))
        for above in (16, MOST):
            self.refused([-6], put(0, FIRST, 1, above, 3, 1))
        for above in (65536, MOST):
            self.refused([-6], put(0, FIRST, 1, 2, above, 1))

    def test_journals(self):
        for j in (3, MOST):
            self.refused([-1], put(j, FIRST, 1, 2, 3, 1))

    def test_bounds_come_before_the_rest(self):
        self.refused([-6], put(3, STAMPS, 1, 2, 3, 1))
        self.refused([-6], put(0, STAMPS, 5, 2, 3, 1))
        self.refused([-6], put(0, FIRST, 1, 16, 3, 4))
        self.refused([-6], put(0, FIRST, 2, 2, 65536, 1, []))
        self.refused([-6], put(0, STAMPS, 1, 2, 3, 1, [], b"\xff", ""))

    def test_a_text_of_more_than_65536_bytes(self):
        """More than a list of the interface has; the words tell the bound all the same."""
        self.refused([-6], put(3, FIRST, 1, 2, 3, 1, [], b"\xff" * 65537, ""))
        self.refused([-6], put(3, FIRST, 1, 2, 3, 1, [], "", b"\xff" * 65537))
        self.refused([-1], put(3, FIRST, 1, 2, 3, 1, [], b"\xff" * 65536, ""))
        self.refused([-5, 1, 0], put(0, FIRST, 1, 2, 3, 1, [], b"\xff" * 65536, ""))

    def test_kind_state_and_over_come_before_the_texts(self):
        self.refused([-1], put(3, FIRST, 1, 2, 3, 1, [], b"\xff", ""))
        self.refused([-1], put(0, FIRST, 5, 2, 3, 1, [], b"\xff", ""))
        self.refused([-1], put(0, FIRST, 1, 2, 3, 4, [], b"\xff", ""))
        self.refused([-1], put(0, FIRST, 1, 2, 3, 1, [2, 1], b"\xff", ""))
        self.refused([-1], put(0, stamp(11, 2), 2, 2, 3, 0, [FIRST], "a", ""), TARGET)
        self.refused([-1], put(0, stamp(11, 2), 3, 2, 3, 0, [], "a", ""), TARGET)
        self.refused([-1], put(0, stamp(11, 2), 4, 2, 3, 0, [FIRST], "a", ""), TARGET)

    def test_kind_state_and_over_come_before_what_is_there(self):
        self.refused([-1], put(0, FIRST, 1, 2, 3, 4, [], "s", "t"), TARGET)
        self.refused([-1], put(0, FIRST, 3, 2, 3, 0, []), TARGET)
        self.refused([-1], put(0, stamp(11, 1), 1, 2, 3, 1, [9, 8]), TARGET)


class PutTextsTest(PutCase):
    def test_texts_of_a_target(self):
        for src, row, answer in (
            (b"a\xff", b"\xff", [-5, 1, 1]), ("a" * 4097, b"\xff", [-6]), ("{+1}{-2}", b"\xff", [-5, 1, 8]),
            ("{.1}", b"ab\xff", [-5, 2, 2]), ("{.1}", "a" * 4097, [-6]), ("{.1}", "a", [-5, 3, 0]),
            ("", "{.1}", [-5, 3, 0]), ("{+1}{-1}", "{-1}{+1}", [-5, 3, 0]), ("{", "", [-5, 1, 1]),
            ("", "{+", [-5, 2, 2]),
        ):
            self.refused(answer, put(0, FIRST, 1, 2, 3, 1, [], src, row))
        for src, row in (("", ""), ("", "a"), ("a", ""), ("{-2}a{.1}{+3}", "{-2}{.1}b{+3}"), ("a" * 4096, "{{" * 4096)):
            self.taken(put(0, FIRST, 1, 2, 3, 1, [], src, row))

    def test_no_text_of_a_verdict_or_a_taking_back(self):
        for kind, state in ((2, 1), (3, 0)):
            for text in ("a", b"\x00", b"\xff", "{", "{.1}", "a" * 4097):
                self.refused([-5, 6, 0], put(0, stamp(11, 2), kind, 2, 3, state, [FIRST], text, ""), TARGET)
                self.refused([-5, 6, 0], put(0, stamp(11, 2), kind, 2, 3, state, [FIRST], "", text), TARGET)
                self.refused([-5, 6, 0], put(0, stamp(11, 2), kind, 2, 3, state, [FIRST], text, text), TARGET)

    def test_no_source_of_a_remark(self):
        for text in ("a", b"\x00", b"\xff", "{.1}", "a" * 4097):
            for row in ("r", "", b"\xff", "{.1}", "a" * 4097):
                self.refused([-5, 6, 0], put(0, FIRST, 4, 2, 3, 0, [], text, row))

    def test_row_of_a_remark(self):
        for row, answer in ((b"a\xff", [-5, 2, 1]), (b"{.1}\xff", [-5, 2, 4]), ("a" * 4097, [-6]), ("", [-5, 5, 0]),
                            ("{.1}" * 4097, [-6]), ("\u20ac{{{+1}{-1}", [-5, 4, 5])):
            self.refused(answer, put(0, FIRST, 4, 2, 3, 0, [], "", row))
        for row in ("r", "{{", "\u20ac", "a" * 4096):
            self.taken(put(0, FIRST, 4, 2, 3, 0, [], "", row))

    def test_texts_come_before_what_is_there(self):
        self.refused([-5, 1, 0], put(0, FIRST, 1, 2, 3, 2, [], b"\xff", "t"), TARGET)
        self.refused([-5, 2, 0], put(0, FIRST, 1, 2, 3, 2, [], "s", b"\xff"), TARGET)
        self.refused([-5, 3, 0], put(0, FIRST, 1, 2, 3, 2, [], "{.1}", "t"), TARGET)
        self.refused([-6], put(0, FIRST, 1, 2, 3, 2, [], "a" * 4097, "t"), TARGET)
        self.refused([-5, 6, 0], put(0, stamp(11, 2), 2, 2, 3, 3, [FIRST], "s", ""), *ALL)
        self.refused([-5, 5, 0], put(0, stamp(13, 4), 4, 2, 3, 0), *ALL)

    def test_texts_come_before_what_it_is_over(self):
        self.refused([-5, 3, 0], put(0, FIRST, 1, 2, 3, 2, [5], "{.1}", "t"))
        self.refused([-5, 6, 0], put(0, FIRST, 2, 2, 3, 2, [5], "", "t"))
        self.refused([-5, 6, 0], put(0, FIRST, 3, 2, 3, 0, [5], "s", ""))


class PutStampsTest(PutCase):
    def test_just_this_one(self):
        for place, call in enumerate(ALL):
            for before in (ALL[:place + 1], ALL):
                self.refused([0], call, *before)
        more = [put(0, stamp(11, 9), 1, 2, 3, 1, [FIRST, stamp(10, 2)], "{+1}", "{+1}")]
        before = [TARGET, put(0, stamp(10, 2), 1, 2, 3, 1)] + more
        self.refused([0], more[0], *before)

    def test_just_what_another_call_made(self):
        work = [write(0, 1, 10, 2, 3, 2, "s", "t"), rule(0, 2, 11, 2, 3, 3), back(0, 3, 12, 2, 3),
                remark(0, 4, 13, 2, 3, "r")]
        self.assertEqual(contents(*work), contents(*ALL))
        for call in ALL:
            self.refused([0], call, *work)

    def test_another_of_that_stamp(self):
        before = [TARGET, put(0, stamp(10, 2), 1, 2, 3, 1), put(0, stamp(11, 9), 1, 2, 3, 1, [FIRST], "s", "t")]
        number = stamp(11, 9)
        for other in (
            put(0, number, 1, 2, 3, 1, [], "s", "t"), put(0, number, 1, 2, 3, 1, [stamp(10, 2)], "s", "t"),
            put(0, number, 1, 2, 3, 1, [FIRST, stamp(10, 2)], "s", "t"), put(0, number, 1, 2, 3, 2, [FIRST], "s", "t"),
            put(0, number, 1, 2, 4, 1, [FIRST], "s", "t"), put(0, number, 1, 3, 3, 1, [FIRST], "s", "t"),
            put(0, number, 1, 2, 3, 1, [FIRST], "S", "t"), put(0, number, 1, 2, 3, 1, [FIRST], "s", "T"),
            put(0, number, 1, 2, 3, 1, [FIRST], "t", "s"), put(0, number, 2, 2, 3, 1, [FIRST]),
            put(0, number, 3, 2, 3, 0, [FIRST]), put(0, number, 4, 2, 3, 0, [], "", "r"),
        ):
            self.refused([-3], other, *before)
        self.refused([-3], before[2], *before[:2], put(0, number, 4, 2, 3, 0, [], "", "r"))
        for call in (put(0, stamp(13, 4), 4, 2, 3, 0, [], "", "R"), put(0, stamp(13, 4), 4, 2, 4, 0, [], "", "r"),
                     put(0, stamp(13, 4), 1, 2, 3, 1, [], "", "r")):
            self.refused([-3], call, *ALL)
        self.refused([-3], put(0, stamp(11, 2), 2, 2, 3, 2, [FIRST]), *ALL)
        self.refused([-3], put(0, stamp(11, 2), 3, 2, 3, 0, [FIRST]), *ALL)

    def test_kinds_that_differ_in_nothing_else(self):
        base = put(0, FIRST, 1, 2, 3, 1)
        self.refused([-3], put(0, stamp(11, 2), 1, 2, 3, 1, [FIRST]), base, put(0, stamp(11, 2), 2, 2, 3, 1, [FIRST]))
        self.refused([-3], put(0, stamp(11, 2), 2, 2, 3, 1, [FIRST]), base, put(0, stamp(11, 2), 1, 2, 3, 1, [FIRST]))

    def test_journals_stand_beside_one_another(self):
        self.taken(put(1, FIRST, 1, 2, 3, 1, [], "S", "T"), TARGET)
        self.taken(put(2, FIRST, 1, 2, 3, 2, [], "s", "t"), TARGET)
        self.refused([-2], put(1, stamp(11, 2), 2, 2, 3, 3, [FIRST]), TARGET)

    def test_a_stamp_that_is_there_comes_before_what_it_is_over(self):
        self.refused([-3], put(0, FIRST, 1, 2, 3, 2, [5], "s", "t"), TARGET)
        self.refused([-3], put(0, FIRST, 3, 2, 3, 0, [FIRST]), TARGET)

    def test_it_need_not_be_later_than_the_heads(self):
        for number in (0, stamp(9, 1), stamp(10, 0), stamp(10, 2)):
            for kind, row in ((1, "t"), (4, "r")):
                self.taken(put(0, number, kind, 2, 3, 1 if kind == 1 else 0, [], "", row), TARGET)
        found = ask(TARGET, put(0, stamp(9, 9), 1, 2, 3, 2, [], "", "u"), stands(0, 2, 3), head(0, 2, 3, 0),
                    next_segment(0, 1))
        self.assertEqual(found[2:], [told(10, 1, 1, 2, 2, 1, "t"), told(9, 9, 1, 2, 2, 9, "u"), [0, 2, 3]])


class PutOverTest(PutCase):
    def over_refused(self, over, *before, number=stamp(11, 5), kinds=(1, 2, 3)):
        for kind in kinds:
            state = 0 if kind == 3 else 1
            self.refused([-2], put(0, number, kind, 2, 3, state, over), *before)

    def over_taken(self, over, *before, number=stamp(11, 5), kinds=(1, 2, 3)):
        for kind in kinds:
            state = 0 if kind == 3 else 1
            self.taken(put(0, number, kind, 2, 3, state, over), *before)

    def test_a_stamp_that_is_not_there(self):
        self.over_taken([FIRST], TARGET)
        for absent in (0, 5, FIRST - 1, FIRST + 1, stamp(11, 5), STAMPS - 1, STAMPS, STAMPS + FIRST, MOST_LONG):
            self.over_refused([absent], TARGET)
            self.over_refused(sorted([FIRST, absent]), TARGET, kinds=(1, 3))
        self.over_refused([FIRST])
        self.over_refused([FIRST], put(1, FIRST, 1, 2, 3, 1))

    def test_another_segment(self):
        for doc, seg in ((2, 2), (2, 4), (1, 3), (3, 3), (3, 2)):
            self.over_refused([FIRST], put(0, FIRST, 1, doc, seg, 1))
            both = [put(0, FIRST, 1, doc, seg, 1), put(0, FIRST + 1, 1, 2, 3, 1)]
            self.over_refused([FIRST, FIRST + 1], *both, kinds=(1, 3))
            self.over_taken([FIRST + 1], *both)

    def test_a_remark(self):
        self.over_refused([FIRST], put(0, FIRST, 4, 2, 3, 0, [], "", "r"))
        self.over_refused([FIRST, FIRST + 1], put(0, FIRST + 1, 4, 2, 3, 0, [], "", "r"), TARGET, kinds=(1, 3))

    def test_a_taking_back(self):
        before = [TARGET, put(0, stamp(11, 1), 3, 2, 3, 0, [FIRST])]
        self.over_refused([stamp(11, 1)], *before, number=stamp(12, 5), kinds=(2,))
        self.over_taken([stamp(11, 1)], *before, number=stamp(12, 5), kinds=(1, 3))
        self.over_taken([FIRST, stamp(11, 1)], *before, number=stamp(12, 5), kinds=(1, 3))
        self.over_taken([FIRST], *before, number=stamp(12, 5), kinds=(2,))

    def test_a_verdict(self):
        self.over_taken([stamp(11, 2)], TARGET, VERDICT, number=stamp(12, 5))
        self.over_taken([FIRST, stamp(11, 2)], TARGET, VERDICT, number=stamp(12, 5), kinds=(1, 3))

    def test_ticks(self):
        for who in (0, 2, 255):
            self.over_refused([FIRST], TARGET, number=stamp(10, who))
            self.over_taken([FIRST], TARGET, number=stamp(11, who))
        for number in (0, stamp(9, 5), stamp(9, 1)):
            self.over_refused([FIRST], TARGET, number=number)
        later = [put(0, stamp(9, 1), 1, 2, 3, 1), TARGET]
        self.over_refused([stamp(9, 1), FIRST], *later, number=stamp(10, 5), kinds=(1, 3))
        self.over_taken([stamp(9, 1), FIRST], *later, number=stamp(11, 5), kinds=(1, 3))

    def test_what_it_is_over_need_not_be_a_head(self):
        before = [TARGET, put(0, stamp(11, 1), 1, 2, 3, 1, [FIRST], "", "u")]
        self.over_taken([FIRST], *before, number=stamp(11, 5))
        found = ask(*before, put(0, stamp(11, 5), 2, 2, 3, 3, [FIRST]), stands(0, 2, 3), head(0, 2, 3, 0),
                    head(0, 2, 3, 1), head(0, 2, 3, 2))
        self.assertEqual(found[3:], [told(11, 5, 2, 3, 2, 1, "t"), told(11, 1, 1, 1, 2, 1, "u"),
                                     told(11, 5, 2, 3, 2, 1, "t"), [-2]])


class PutEyesTest(PutCase):
    def approval(self, tick, who, over):
        return put(0, stamp(tick, who), 2, 2, 3, 4, [over])

    def test_state_4_by_the_targets_hand(self):
        self.refused([-3], self.approval(11, 1, FIRST), TARGET)
        for who in (0, 2, 255):
            self.taken(self.approval(11, who, FIRST), TARGET)
        for state in (1, 2, 3):
            self.taken(put(0, stamp(11, 1), 2, 2, 3, state, [FIRST]), TARGET)

    def test_through_several_verdicts(self):
        chain = [TARGET] + [put(0, stamp(tick, tick % 3 + 2), 2, 2, 3, tick % 4 + 1, [
            FIRST if tick == 11 else stamp(tick - 1, (tick - 1) % 3 + 2)]) for tick in range(11, 31)]
        self.assertEqual(ask(*chain), [[1]] * 21)
        for tick in (11, 12, 20, 30):
            over = stamp(tick, tick % 3 + 2)
            self.refused([-3], self.approval(tick + 1, 1, over), *chain)
            self.taken(self.approval(tick + 1, 9, over), *chain)
        self.taken(self.approval(31, 2, stamp(30, 2)), *chain)
        self.refused([-3], self.approval(31, 1, stamp(30, 2)), *chain)

    def test_the_hand_is_that_of_the_target_that_it_comes_from(self):
        before = [TARGET, put(0, stamp(11, 2), 1, 2, 3, 1, [FIRST])]
        self.taken(self.approval(12, 2, FIRST), *before)
        self.refused([-3], self.approval(12, 1, FIRST), *before)
        self.taken(self.approval(12, 1, stamp(11, 2)), *before)
        self.refused([-3], self.approval(12, 2, stamp(11, 2)), *before)

    def test_what_it_is_over_comes_first(self):
        self.refused([-2], self.approval(9, 1, FIRST), TARGET)
        self.refused([-2], self.approval(11, 1, stamp(9, 1)), TARGET)
        self.refused([-2], put(0, stamp(11, 1), 2, 2, 4, 4, [FIRST]), TARGET)
        self.refused([-2], self.approval(12, 1, stamp(11, 1)), TARGET, put(0, stamp(11, 1), 3, 2, 3, 0, [FIRST]))

    def test_just_this_one_comes_first(self):
        approval = self.approval(11, 2, FIRST)
        self.refused([0], approval, TARGET, approval)


class PutBoundsTest(PutCase):
    def test_256_records(self):
        self.taken(put(0, stamp(500, 1), 4, 2, 3, 0, [], "", "r"), *remarks(255))
        self.taken(put(0, stamp(500, 1), 1, 2, 3, 1), *remarks(255))

    def test_one_record_more(self):
        full = [TARGET] + remarks(255)
        for call in (put(0, stamp(500, 1), 1, 2, 3, 1), put(0, stamp(500, 1), 2, 2, 3, 1, [FIRST]),
                     put(0, stamp(500, 1), 3, 2, 3, 0, [FIRST]), put(0, stamp(500, 1), 4, 9, 9, 0, [], "", "r")):
            self.refused([-6], call, *full)

    def test_the_other_answers_come_before_a_full_journal(self):
        full = [TARGET] + remarks(255)
        self.refused([0], TARGET, *full)
        self.refused([-3], put(0, FIRST, 1, 2, 3, 1), *full)
        self.refused([-2], put(0, stamp(500, 1), 2, 2, 3, 1, [5]), *full)
        self.refused([-3], put(0, stamp(500, 1), 2, 2, 3, 4, [FIRST]), *full)
        self.refused([-5, 6, 0], put(0, stamp(500, 1), 2, 2, 3, 4, [FIRST], "a", ""), *full)
        self.refused([-1], put(0, stamp(500, 1), 2, 2, 3, 5, [FIRST]), *full)

    def test_16384_pieces(self):
        self.assertEqual(ask(*pieces(0, 10, 16384)), [[1]] * 3)
        for call in (put(0, stamp(20, 1), 1, 2, 3, 1), put(0, stamp(20, 1), 2, 2, 3, 1, [FIRST]),
                     put(0, stamp(20, 1), 3, 2, 3, 0, [FIRST])):
            self.taken(call, *pieces(0, 10, 16384))
        for src, row in (("a", ""), ("", "a")):
            self.refused([-6], put(0, stamp(20, 1), 1, 2, 3, 1, [], src, row), *pieces(0, 10, 16384))
            self.taken(put(0, stamp(20, 1), 1, 2, 3, 1, [], src, row), *pieces(0, 10, 16383))
        self.refused([-6], put(0, stamp(20, 1), 4, 2, 3, 0, [], "", "{{"), *pieces(0, 10, 16384))
        self.taken(put(0, stamp(20, 1), 4, 2, 3, 0, [], "", "{{"), *pieces(0, 10, 16383))
        self.refused([-6], put(0, stamp(20, 1), 1, 2, 3, 1, [], "{.1}", "{.1}"), *pieces(0, 10, 16383))


class ManyHeadsTest(unittest.TestCase):
    def test_heads_in_order(self):
        for many in (2, 16, 17, 40, 200):
            calls = targets(many)
            calls.reverse()
            found = ask(*calls, stands(0, 2, 3), *[head(0, 2, 3, k) for k in range(many + 1)], next_segment(0, 1))
            self.assertEqual(found[:many], [[1]] * many)
            self.assertEqual(found[many], told(10, many - 1, 1, 1, many, many - 1, "t%d" % (many - 1)))
            self.assertEqual(found[many + 1:-2], [told(10, k, 1, 1, many, k, "t%d" % k) for k in range(many)])
            self.assertEqual(found[-2:], [[-2], [0, 2, 3]])

    def test_a_write_or_a_taking_back_over_16_at_most(self):
        for many in (2, 16, 17, 20, 200):
            left = max(0, many - 16)
            for call, kind, state, text in (
                (write(0, 7, 11, 2, 3, 2, "", "new"), 1, 2, "new"), (back(0, 7, 11, 2, 3), 3, 0, ""),
            ):
                found = ask(*targets(many), call, record(0, many), head(0, 2, 3, left), head(0, 2, 3, left + 1),
                            next_segment(0, 1), *[head(0, 2, 3, k) for k in range(left)])[many:]
                self.assertEqual(found[0], [0])
                self.assertEqual(found[1], kept(stamp(11, 7), kind, 2, 3, state, stamps(left, many), text))
                self.assertEqual(found[2], told(11, 7, kind, state, left + 1, 7, text))
                self.assertEqual(found[3], [-2])
                self.assertEqual(found[4], [0, 2, 3] if left > 0 else [-2])
                self.assertEqual(found[5:], [told(10, k, 1, 1, left + 1, k, "t%d" % k) for k in range(left)])

    def test_what_stands_behind_a_taking_back_of_some(self):
        found = ask(*targets(18), back(0, 7, 11, 2, 3), stands(0, 2, 3), rule(0, 9, 12, 2, 3, 1), back(0, 7, 12, 2, 3),
                    stands(0, 2, 3), next_segment(0, 1), head(0, 2, 3, 0))[18:]
        self.assertEqual(found, [[0], told(10, 1, 1, 1, 3, 1, "t1"), [-3], [0], [-2], [-2],
                                 told(12, 7, 3, 0, 1, 7, "")])

    def test_a_head_that_is_too_late(self):
        """Among many heads, one that a new record would not be over counts as well."""
        calls = targets(17)[1:] + [put(0, stamp(3, 0), 1, 2, 3, 1), put(0, stamp(30, 0), 3, 2, 3, 0, [stamp(3, 0)])]
        for tick, answer in ((10, [-3]), (11, [-3]), (30, [-3]), (31, [0])):
            self.assertEqual(last(*calls, write(0, 7, tick, 2, 3, 1, "", "")), answer)
            self.assertEqual(last(*calls, back(0, 7, tick, 2, 3)), answer)


class MergeTest(RefusalCase):
    good = [2]

    LEFT = [write(0, 1, 10, 2, 3, 1, "s", "t"), rule(0, 2, 11, 2, 3, 3), remark(0, 1, 12, 5, 5, "r")]
    RIGHT = [write(1, 3, 10, 2, 3, 2, "s", "u"), back(1, 3, 20, 2, 3)]

    def test_how_many_are_new(self):
        self.assertEqual(last(*self.LEFT, *self.RIGHT, merge(0, 1)), [2])
        self.assertEqual(last(*self.LEFT, *self.RIGHT, merge(1, 0)), [3])
        self.assertEqual(last(*self.LEFT, *self.RIGHT, merge(2, 0)), [3])
        self.assertEqual(last(*self.LEFT, *self.RIGHT, merge(0, 2)), [0])
        self.assertEqual(last(merge(0, 2)), [0])

    def test_both_ways_and_twice(self):
        found = ask(*self.LEFT, *self.RIGHT, merge(0, 1), merge(0, 1), merge(1, 0), merge(1, 0), merge(0, 1), count(0),
                    count(1), count(2))[5:]
        self.assertEqual(found, [[2], [0], [3], [0], [0], [5], [5], [0]])
        one, other, third = contents(*self.LEFT, *self.RIGHT, merge(0, 1), merge(1, 0))
        self.assertEqual(one, other)
        self.assertEqual(third, [])

    def test_all_of_it_is_put_in_just_as_it_is(self):
        apart = contents(*self.LEFT, *self.RIGHT)
        merged = contents(*self.LEFT, *self.RIGHT, merge(0, 1))
        self.assertEqual(merged[0], sorted(apart[0] + apart[1], key=lambda told: told[1]))
        self.assertEqual(merged[1], apart[1])
        self.assertEqual(contents(*self.LEFT, merge(2, 0))[2], apart[0])

    def test_what_is_there_already_is_not_new(self):
        shared = [put(j, FIRST, 1, 2, 3, 1, [], "s", "t") for j in (0, 1)]
        new = [remark(1, 5, 5, 0, 0, "a"), remark(1, 5, 6, 0, 0, "b")]
        self.taken(merge(0, 1), *shared, *new, remark(0, 7, 7, 0, 0, "c"))

    def test_journals_go_on_apart(self):
        apart = [write(0, 1, 30, 2, 3, 1, "", "only 0"), write(1, 1, 31, 2, 3, 1, "", "only 1")]
        calls = [*self.LEFT, merge(1, 0), *apart]
        found = ask(*calls, stands(0, 2, 3), stands(1, 2, 3), count(0), count(1))[6:]
        self.assertEqual(found, [told(30, 1, 1, 1, 1, 1, "only 0"), told(31, 1, 1, 1, 1, 1, "only 1"), [4], [4]])

    def test_journals_that_may_not_be(self):
        for j, other in ((3, 0), (0, 3), (3, 4), (3, 3), (MOST, 0), (0, MOST), (0, 0), (1, 1), (2, 2), (MOST, MOST)):
            self.refused([-1], merge(j, other), *self.LEFT, *self.RIGHT)

    def test_every_two_journals(self):
        for j in range(3):
            for other in range(3):
                if j != other:
                    self.taken(merge(j, other), remark(other, 5, 5, 0, 0, "a"), remark(other, 5, 6, 0, 0, "b"))

    def test_two_records_that_differ(self):
        number = stamp(11, 9)
        one = [put(0, FIRST, 1, 2, 3, 1), put(0, FIRST + 1, 1, 2, 3, 1), put(0, number, 1, 2, 3, 1, [FIRST], "s", "t")]
        two = [put(1, FIRST, 1, 2, 3, 1), put(1, FIRST + 1, 1, 2, 3, 1), put(1, 7, 4, 0, 0, 0, [], "", "r")]
        for other in (
            put(1, number, 1, 2, 3, 1, [], "s", "t"), put(1, number, 1, 2, 3, 1, [FIRST + 1], "s", "t"),
            put(1, number, 1, 2, 3, 2, [FIRST], "s", "t"), put(1, number, 1, 2, 4, 1, [], "s", "t"),
            put(1, number, 1, 2, 3, 1, [FIRST], "S", "t"), put(1, number, 1, 2, 3, 1, [FIRST], "s", "T"),
            put(1, number, 2, 2, 3, 1, [FIRST]), put(1, number, 3, 2, 3, 0, [FIRST]),
            put(1, number, 4, 2, 3, 0, [], "", "t"),
        ):
            self.assertEqual(ask(*one, *two, other), [[1]] * 7)
            self.refused([-5, 7, 3], merge(0, 1), *one, *two, other)
            self.refused([-5, 7, 2], merge(1, 0), *one, *two, other)

    def test_the_first_that_differs_by_its_number_in_other(self):
        one = [remark(0, 1, tick, 0, 0, "one") for tick in (30, 20, 40, 5)]
        two = [remark(1, 1, tick, 0, 0, "two") for tick in (40, 30)]
        two = two + [remark(1, 2, tick, 0, 0, "new") for tick in (29, 1, 50, 2)] + [remark(1, 1, 20, 0, 0, "one")]
        self.refused([-5, 7, 4], merge(0, 1), *one, *two)
        self.refused([-5, 7, 2], merge(1, 0), *one, *two)

    def test_the_first_of_all(self):
        self.refused([-5, 7, 0], merge(0, 1), remark(0, 0, 0, 0, 0, "a"), remark(1, 0, 0, 0, 0, "b"))

    def test_a_third_journal_does_not_matter(self):
        self.taken(merge(0, 1), remark(2, 5, 5, 0, 0, "x"), remark(1, 5, 5, 0, 0, "a"), remark(1, 5, 6, 0, 0, "b"))

    def test_257_records(self):
        self.refused([-6], merge(0, 1), *remarks(200, 0), *remarks(57, 1, 200))
        self.refused([-6], merge(1, 0), *remarks(200, 0), *remarks(57, 1, 200))
        self.refused([-6], merge(0, 1), *remarks(200, 0), *remarks(58, 1, 199))
        self.assertEqual(last(*remarks(200, 0), *remarks(56, 1, 200), merge(0, 1)), [56])
        self.assertEqual(last(*remarks(200, 0), *remarks(56, 1, 200), merge(1, 0)), [200])
        self.assertEqual(last(*remarks(200, 0), *remarks(100, 1, 156), merge(0, 1)), [56])
        self.assertEqual(last(*remarks(256, 0), merge(1, 0), merge(0, 1)), [0])

    def test_two_full_journals(self):
        merges = [merge(1, 0), merge(1, 0), merge(0, 1), merge(2, 0), merge(2, 1)]
        self.assertEqual(ask(*remarks(256, 0), *merges)[256:], [[256], [0], [0], [256], [0]])

    def test_16384_pieces(self):
        one = pieces(0, 10, 12288)
        self.assertEqual(last(*one, put(1, 5, 4, 0, 0, 0, [], "", "r" * 4096), merge(0, 1)), [1])
        self.assertEqual(last(*one, put(1, 5, 4, 0, 0, 0, [], "", "r" * 4096), merge(1, 0)), [2])
        two = [put(1, 5, 4, 0, 0, 0, [], "", "r" * 4096), put(1, 6, 4, 0, 0, 0, [], "", "r")]
        self.refused([-6], merge(0, 1), *one, *two)
        self.refused([-6], merge(1, 0), *one, *two)
        self.assertEqual(last(*one, merge(1, 0), *two[:1], merge(0, 1)), [1])

    def test_two_that_differ_come_before_the_bound(self):
        one = remarks(200, 0) + [remark(0, 1, 999, 0, 0, "a")]
        two = remarks(100, 1, 200) + [remark(1, 1, 999, 0, 0, "b")]
        self.refused([-5, 7, 100], merge(0, 1), *one, *two)
        self.refused([-5, 7, 200], merge(1, 0), *one, *two)

    def test_what_was_refused_can_be_merged_elsewhere(self):
        calls = [remark(0, 1, 1, 0, 0, "a"), remark(1, 1, 1, 0, 0, "b"), remark(1, 1, 2, 0, 0, "c"), merge(0, 1),
                 count(0), merge(2, 1), lacks(2, 1), merge(2, 0)]
        self.assertEqual(ask(*calls)[3:], [[-5, 7, 0], [1], [2], [0], [-5, 7, 0]])


class LacksTest(unittest.TestCase):
    def test_before_and_after_a_merge(self):
        work = MergeTest.LEFT + MergeTest.RIGHT
        found = ask(*work, lacks(0, 1), lacks(1, 0), lacks(2, 0), lacks(0, 2), merge(0, 1), lacks(0, 1), lacks(1, 0),
                    merge(1, 0), lacks(1, 0), lacks(0, 1))[5:]
        self.assertEqual(found, [[2], [3], [3], [0], [2], [0], [3], [3], [0], [0]])

    def test_without_records(self):
        self.assertEqual(ask(lacks(0, 1), lacks(2, 1)), [[0], [0]])

    def test_records_that_differ(self):
        one = [remark(0, 1, tick, 0, 0, "one") for tick in (1, 2, 3)] + [remark(0, 1, 9, 0, 0, "both")]
        two = [remark(1, 1, tick, 0, 0, "two") for tick in (2, 3, 4, 5)] + [remark(1, 1, 9, 0, 0, "both")]
        found = ask(*one, *two, lacks(0, 1), lacks(1, 0), merge(0, 1), lacks(0, 1))[9:]
        self.assertEqual(found, [[4], [3], [-5, 7, 0], [4]])

    def test_each_part_that_may_differ(self):
        number = stamp(11, 9)
        base = [put(j, FIRST, 1, 2, 3, 1) for j in (0, 1)] + [put(0, number, 1, 2, 3, 1, [FIRST], "s", "t")]
        for other, many in (
            (put(1, number, 1, 2, 3, 1, [FIRST], "s", "t"), 0), (put(1, number, 1, 2, 3, 1, [], "s", "t"), 1),
            (put(1, number, 1, 2, 3, 2, [FIRST], "s", "t"), 1), (put(1, number, 1, 2, 3, 1, [FIRST], "", "t"), 1),
            (put(1, number, 1, 2, 3, 1, [FIRST], "s", ""), 1), (put(1, number, 1, 3, 3, 1, [], "s", "t"), 1),
            (put(1, number, 2, 2, 3, 1, [FIRST]), 1),
        ):
            self.assertEqual(ask(*base, other, lacks(0, 1), lacks(1, 0))[3:], [[1], [many], [many]])

    def test_journals_that_may_not_be(self):
        for j, other in ((3, 0), (0, 3), (3, 3), (MOST, 1), (1, MOST), (0, 0), (1, 1), (2, 2)):
            self.assertEqual(last(TARGET, lacks(j, other)), [-1])

    def test_asking_changes_nothing(self):
        work = MergeTest.LEFT + MergeTest.RIGHT
        self.assertEqual(contents(*work, lacks(0, 1), lacks(1, 0)), contents(*work))


if __name__ == "__main__":
    unittest.main()
