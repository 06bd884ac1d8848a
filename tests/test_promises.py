"""F1, F3, F4, F5 and F6 on journals that are built record by record, and on what the first eight calls make;
test_union.py has the promises over all calls."""

import random
import unittest

import helper
from ferryjournals.entries import back, remark, rule, write
from ferryjournals.journals import answer_call
from ferryjournals.questions import head, next_segment, stands
from ferryjournals.records import Journal, Record
from ferryjournals.segments import heads_of, in_conflict, records_of, standing

SEGMENT = (3, 4)


def record(tick, who, kind, state=0, over=(), text="", name=SEGMENT):
    row = list(text.encode("utf-8"))
    source = list(b"s") if kind == 1 else []
    return Record(helper.stamp(tick, who), kind, name, state, list(over), source, row, len(source) + len(row))


def journals_of(records):
    journals = [Journal(), Journal(), Journal()]
    for one in records:
        journals[0].put_in(one)
    return journals


def has_seen(journal, later, earlier):
    return later.stamp == earlier.stamp or any(
        has_seen(journal, journal.records[stamp], earlier) for stamp in later.over
    )


def random_records(chance, most):
    """Records of one segment, as the table of kinds has them, with overs chosen at will."""
    records = []
    for tick in range(1, most + 1):
        who = chance.randrange(4)
        kind = chance.choice((1, 1, 1, 2, 3, 4))
        bases = [one for one in records if one.kind < 4]
        ruled = [one for one in bases if one.kind < 3]
        if kind == 4 or (kind == 2 and not ruled) or (kind == 3 and not bases):
            records.append(record(tick, who, 4, text="r"))
        elif kind == 2:
            base = chance.choice(ruled)
            records.append(record(tick, who, 2, chance.randint(1, 3), [base.stamp]))
        else:
            least = 0 if kind == 1 else 1
            chosen = chance.sample(bases, chance.randint(least, min(3, len(bases))))
            over = sorted(one.stamp for one in chosen)
            records.append(record(tick, who, kind, chance.randint(1, 3) if kind == 1 else 0, over, "t" * (kind == 1)))
    return records


def everything(journals):
    """All that can be asked of the segment, and of where it stands in order."""
    found = [stands(journals, 0, 3, 4, which) for which in (0, 1)]
    found = found + [head(journals, 0, 3, 4, k, which) for k in range(20) for which in (0, 1)]
    found = found + [answer_call(journals, 7, [0, 3, 4, k], []) for k in range(20)]
    return found + [next_segment(journals, 0, what, 0, 0) for what in range(4)]


class TableTest(unittest.TestCase):
    def test_new_records_are_as_the_table_of_kinds_has_them(self):
        journals = journals_of([])
        self.assertEqual(write(journals, 0, 1, 5, 3, 4, 2, list(b"{{s"), list(b"t{{")), [0])
        self.assertEqual(rule(journals, 0, 2, 6, 3, 4, 4), [0])
        self.assertEqual(back(journals, 0, 3, 7, 3, 4), [0])
        self.assertEqual(remark(journals, 0, 4, 8, 3, 4, list(b"{{r")), [0])
        self.assertEqual([vars(one) for one in journals[0].ordered()], [
            self.row_of_table(5, 1, 1, 2, [], b"{{s", b"t{{", 4),
            self.row_of_table(6, 2, 2, 4, [helper.stamp(5, 1)], b"", b"", 0),
            self.row_of_table(7, 3, 3, 0, [helper.stamp(6, 2)], b"", b"", 0),
            self.row_of_table(8, 4, 4, 0, [], b"", b"{{r", 2),
        ])
        self.assertEqual([journals[1].records, journals[2].records], [{}, {}])

    def row_of_table(self, tick, who, kind, state, over, source, row, size):
        return {"stamp": helper.stamp(tick, who), "kind": kind, "name": SEGMENT, "state": state, "over": over,
                "source": list(source), "row": list(row), "size": size}


class SetTest(unittest.TestCase):
    def test_answers_hang_on_the_set_alone(self):
        chance = random.Random(1)
        for turn in range(60):
            records = random_records(chance, 12)
            expected = everything(journals_of(records))
            chance.shuffle(records)
            self.assertEqual(everything(journals_of(records)), expected)

    def test_other_segments_and_journals_do_not_matter(self):
        line = [helper.write(0, 1, 5, 3, 4, 2, "s", "t"), helper.rule(0, 2, 6, 3, 4, 4)]
        others = [helper.write(0, 1, 9, 3, 5, 3, "x", "y"), helper.write(1, 3, 9, 3, 4, 3, "x", "y"),
                  helper.back(1, 3, 10, 3, 4), helper.remark(0, 9, 9, 3, 4, "x")]
        asked = helper.stands(0, 3, 4)
        self.assertEqual(helper.last(*line, asked), helper.last(*others, *line, asked))
        self.assertEqual(helper.last(*line, asked), helper.last(*line, *others, asked))


class HeadsTest(unittest.TestCase):
    def test_heads_are_just_what_no_other_has_seen(self):
        chance = random.Random(2)
        for turn in range(200):
            journal = journals_of(random_records(chance, 10))[0]
            work = [one for one in journal.ordered() if one.kind < 4]
            expected = [
                one.stamp for one in work
                if not any(other.stamp != one.stamp and has_seen(journal, other, one) for other in work)
            ]
            self.assertEqual([one.stamp for one in heads_of(records_of(journal, SEGMENT))], expected)

    def test_two_heads(self):
        journals = journals_of([record(5, 1, 1, 2, text="a"), record(5, 2, 1, 2, text="b")])
        self.assertEqual(stands(journals, 0, 3, 4, 0), helper.told(5, 2, 1, 2, 2, 2, "b"))
        self.assertEqual(head(journals, 0, 3, 4, 0, 0), helper.told(5, 1, 1, 2, 2, 1, "a"))
        self.assertEqual(head(journals, 0, 3, 4, 1, 0), helper.told(5, 2, 1, 2, 2, 2, "b"))
        self.assertEqual(head(journals, 0, 3, 4, 2, 0), [-2])
        self.assertEqual(next_segment(journals, 0, 1, 0, 0), [0, 3, 4])

    def test_a_target_or_a_taking_back_leaves_one_head(self):
        for many in (1, 2, 15, 16):
            for call in (self.write, self.back):
                journals = journals_of([record(5, who, 1, 1, text="a") for who in range(many)])
                self.assertEqual(call(journals, 6), [0])
                heads = heads_of(records_of(journals[0], SEGMENT))
                self.assertEqual([one.stamp for one in heads], [helper.stamp(6, 9)])
                self.assertEqual(heads[0].over, [helper.stamp(5, who) for who in range(many)])

    def test_of_more_than_16_heads_the_last_16(self):
        for many in (17, 40):
            for call in (self.write, self.back):
                journals = journals_of([record(5, who, 1, 1, text="a") for who in range(many)])
                self.assertEqual(call(journals, 6), [0])
                heads = [one.stamp for one in heads_of(records_of(journals[0], SEGMENT))]
                expected = [helper.stamp(5, who) for who in range(many - 16)] + [helper.stamp(6, 9)]
                self.assertEqual(heads, expected)
                over = journals[0].records[helper.stamp(6, 9)].over
                self.assertEqual(over, [helper.stamp(5, who) for who in range(many - 16, many)])

    def test_any_head_may_be_too_late(self):
        """A head that a new record would not be over counts, too; so does a taking back."""
        heads = [record(5, 0, 1, 1, text="a"), record(7, 1, 3, 0, [helper.stamp(4, 1)])]
        journals = journals_of([record(4, 1, 1, 1, text="a")] + heads)
        for tick in (5, 6, 7):
            self.assertEqual(self.write(journals, tick), [-3])
            self.assertEqual(self.back(journals, tick), [-3])
        self.assertEqual(self.write(journals, 8), [0])

    def write(self, journals, tick):
        return write(journals, 0, 9, tick, 3, 4, 1, [], [])

    def back(self, journals, tick):
        return back(journals, 0, 9, tick, 3, 4)


class ConflictTest(unittest.TestCase):
    def test_conflict_by_the_promise(self):
        chance = random.Random(3)
        both = [0, 0]
        for turn in range(300):
            journals = journals_of(random_records(chance, chance.randint(1, 9)))
            journal = journals[0]
            work = [one for one in journal.ordered() if one.kind < 4]
            expected = any(self.apart(journal, work, one, other) for one in work for other in work)
            both[expected] += 1
            self.assertEqual(in_conflict(heads_of(records_of(journal, SEGMENT))), expected)
            self.assertEqual(next_segment(journals, 0, 1, 0, 0), [0, 3, 4] if expected else [-2])
        self.assertGreater(min(both), 20)

    def apart(self, journal, work, one, other):
        if has_seen(journal, one, other) or has_seen(journal, other, one):
            return False
        thirds = [third for third in work if third.stamp != one.stamp and third.stamp != other.stamp]
        return not any(has_seen(journal, third, one) and has_seen(journal, third, other) for third in thirds)

    def test_no_verdict_in_conflict(self):
        journals = journals_of([record(5, 1, 1, 2, text="a"), record(5, 2, 1, 1, text="b")])
        for state in (1, 2, 3, 4):
            self.assertEqual(rule(journals, 0, 9, 6, 3, 4, state), [-3])
        self.assertEqual(rule(journals, 0, 9, 6, 3, 4, 5), [-1])
        self.assertEqual(len(journals[0].records), 2)

    def test_a_taking_back_beside_a_target_is_a_conflict(self):
        records = [record(4, 1, 1, 2, text="a"), record(5, 1, 3, 0, [helper.stamp(4, 1)]), record(5, 2, 1, 1, text="b")]
        journals = journals_of(records)
        self.assertEqual(stands(journals, 0, 3, 4, 0), helper.told(5, 2, 1, 1, 2, 2, "b"))
        self.assertEqual(rule(journals, 0, 9, 6, 3, 4, 1), [-3])

    def test_two_takings_back_are_a_conflict_where_nothing_stands(self):
        first = helper.stamp(4, 1)
        records = [record(4, 1, 1, 2, text="a"), record(5, 1, 3, 0, [first]), record(5, 2, 3, 0, [first])]
        journals = journals_of(records)
        self.assertEqual(next_segment(journals, 0, 1, 0, 0), [0, 3, 4])
        self.assertEqual(stands(journals, 0, 3, 4, 0), [-2])
        self.assertEqual(rule(journals, 0, 9, 6, 3, 4, 1), [-2])
        self.assertEqual(back(journals, 0, 9, 6, 3, 4), [-2])
        self.assertEqual(write(journals, 0, 9, 6, 3, 4, 1, [], []), [0])
        self.assertEqual(next_segment(journals, 0, 1, 0, 0), [-2])

    def test_the_greatest_state_stands_and_of_these_the_last(self):
        chance = random.Random(4)
        for turn in range(200):
            heads = heads_of(random_records(chance, 10))
            ranks = [(one.state, one.stamp) for one in heads if one.kind != 3]
            best = standing(heads)
            self.assertEqual(None if best is None else (best.state, best.stamp), max(ranks) if ranks else None)


class EyesTest(unittest.TestCase):
    def test_what_stands_approved_was_approved_by_another(self):
        chance = random.Random(5)
        approved = 0
        for turn in range(100):
            line = []
            for tick in range(1, 25):
                who = chance.randrange(3)
                line.append(chance.choice((
                    helper.write(0, who, tick, 3, 4, chance.randint(1, 3), "s", "t"),
                    helper.rule(0, who, tick, 3, 4, 4),
                    helper.rule(0, who, tick, 3, 4, chance.randint(1, 4)),
                )))
                line.append(helper.stands(0, 3, 4))
            for answer in helper.ask(*line)[1::2]:
                if answer[0] == 0 and answer[3] == 4:
                    approved += 1
                    self.assertEqual(answer[2], 2)
                    self.assertNotEqual(answer[1] % 256, answer[5])
        self.assertGreater(approved, 100)


class KeptTest(unittest.TestCase):
    def test_nothing_is_lost_or_changed(self):
        chance = random.Random(6)
        journals = journals_of([])
        shown = {}
        for tick in range(1, 200):
            who = chance.randrange(3)
            kind = chance.choice((1, 1, 2, 3, 4))
            values = [0, who, tick, 3, chance.randrange(4)]
            if kind < 3:
                values.append(chance.randint(1, 4))
            texts = {1: [[115], [116, tick % 64 + 32]], 4: [[117, tick % 64 + 32]]}
            answer_call(journals, kind, values, texts.get(kind, []))
            for stamp, one in shown.items():
                self.assertEqual(self.show(journals[0].records[stamp]), one)
            shown = {one.stamp: self.show(one) for one in journals[0].ordered()}
        self.assertGreater(len(shown), 80)

    def show(self, one):
        return (one.stamp, one.kind, one.name, one.state, list(one.over), list(one.source), list(one.row))

    def test_remarks_stay(self):
        calls = [helper.remark(0, 1, tick, 3, 4, "remark %d" % tick) for tick in range(1, 30)]
        asked = [helper.said(0, 3, 4, k) for k in range(30)]
        expected = [[0, helper.stamp(tick, 1)] + helper.with_length("remark %d" % tick) for tick in range(1, 30)]
        self.assertEqual(helper.ask(*calls, *asked)[29:], expected + [[-2]])

    def test_each_target_told_fits_its_source(self):
        """A target that doesn't fit is refused, and what stood before is told as before."""
        first = helper.write(0, 1, 1, 3, 4, 1, "{+1}a{-1}", "{+1}b{-1}")
        wrong = helper.write(0, 1, 2, 3, 4, 1, "{+1}a{-1}", "{-1}b{+1}")
        found = helper.ask(first, wrong, helper.stands(0, 3, 4, 0), helper.stands(0, 3, 4, 1))
        self.assertEqual(found[1], [-5, 3, 0])
        self.assertEqual(found[2], helper.told(1, 1, 1, 1, 1, 1, "{+1}b{-1}"))
        self.assertEqual(found[3], helper.told(1, 1, 1, 1, 1, 1, "{+1}a{-1}"))


if __name__ == "__main__":
    unittest.main()
