"""The promises over all fifteen calls, by what the interface answers alone: F2 and F7 (journals merged by different
ways), F3 and F4 (heads and conflict as seen tells them), F5 and F6 where records come from elsewhere, too."""

import random
import unittest

from helper import (
    ask, back, contents, count, head, lacks, last, merge, next_segment, put, record, remark, rule, said, seen, split,
    stamp, stands, tally, write,
)
from ferryjournals.journals import answers

SEGMENTS = ((0, 0), (0, 1), (3, 4))

# Ways in which all that three desks have comes to all of them.
WAYS = (
    ((0, 1), (0, 2), (1, 0), (2, 0)),
    ((0, 2), (0, 1), (2, 0), (1, 0)),
    ((1, 2), (0, 1), (2, 0), (1, 0)),
    ((2, 1), (2, 0), (1, 2), (0, 1)),
    ((1, 0), (1, 0), (2, 1), (0, 2), (0, 2), (1, 2), (0, 1), (2, 1)),
    ((0, 1), (1, 2), (2, 0), (0, 1), (1, 2), (2, 0), (0, 1)),
)


def merges(way):
    return [merge(j, other) for j, other in way]


def desk_calls(chance, most):
    """Work at three desks, each by persons of its own, with some merges in between."""
    calls = []
    for tick in range(1, most + 1):
        j = chance.randrange(3)
        who = 10 * j + chance.randrange(2)
        doc, seg = chance.choice(SEGMENTS)
        calls.append(chance.choice((
            write(j, who, tick, doc, seg, chance.randint(1, 3), "s{.1}", "%d{.1}" % tick),
            write(j, who, tick, doc, seg, chance.randint(1, 3), "s", "t%d" % tick),
            rule(j, who, tick, doc, seg, chance.randint(1, 4)),
            rule(j, who, tick, doc, seg, 4),
            back(j, who, tick, doc, seg),
            remark(j, who, tick, doc, seg, "r%d" % tick),
            merge(j, (j + chance.randint(1, 2)) % 3),
        )))
    return calls


def random_puts(chance, most, j=0):
    """Puts of records of one segment, with overs chosen at will."""
    calls = []
    there = []
    for tick in range(1, most + 1):
        number = stamp(tick // 2, 8 * (tick % 2) + chance.randrange(4))
        kind = chance.choice((1, 1, 1, 2, 2, 3, 4))
        below = [base for base, its_kind in there if base // 256 < tick // 2 and (kind != 2 or its_kind < 3)]
        if kind == 4 or (kind != 1 and below == []):
            calls.append(put(j, number, 4, 3, 4, 0, [], "", "r"))
            continue
        fewest = 0 if kind == 1 else 1
        most_over = 1 if kind == 2 else min(3, len(below))
        over = sorted(chance.sample(below, chance.randint(fewest, most_over)))
        state = 0 if kind == 3 else chance.randint(1, 3)
        calls.append(put(j, number, kind, 3, 4, state, over, "", "t" if kind == 1 else ""))
        there.append((number, kind))
    return calls


def questions(j, numbers):
    """All that can be asked of one journal, about these stamps too."""
    asked = [count(j)]
    for doc, seg in SEGMENTS:
        asked.extend([stands(j, doc, seg, which) for which in (0, 1)])
        asked.extend([head(j, doc, seg, k, which) for k in range(8) for which in (0, 1)])
        asked.extend([said(j, doc, seg, k) for k in range(8)])
        asked.extend([next_segment(j, what, doc, seg) for what in range(4)])
    asked.extend([tally(j, doc) for doc in range(5)])
    asked.extend([record(j, k, which) for k in range(len(numbers) + 1) for which in (0, 1)])
    asked.extend([seen(j, a, b) for a in numbers for b in numbers])
    return asked


def everything(j, numbers, *calls):
    return ask(*calls, *questions(j, numbers))[len(calls):]


def stamps_of(j, *calls):
    return [told[1] for told in contents(*calls)[j][::2]]


def puts_of(j, *calls):
    """For each record that a journal has after these calls, by its stamp: what it is over, and the put that brings it
    to journal 0."""
    found = {}
    told = contents(*calls)[j]
    for with_row, with_source in zip(told[::2], told[1::2]):
        behind = 7 + with_row[6]
        over = with_row[7:behind]
        number, kind, doc, seg, state = with_row[1:6]
        call = put(0, number, kind, doc, seg, state, over, with_source[behind + 1:], with_row[behind + 1:])
        found[number] = (over, call)
    return found


class UnionTest(unittest.TestCase):
    def test_in_any_order_in_any_groups_any_number_of_times(self):
        chance = random.Random(11)
        conflicts = 0
        for turn in range(12):
            calls = desk_calls(chance, 45)
            numbers = stamps_of(0, *calls, *merges(WAYS[0]))
            expected = everything(0, numbers, *calls, *merges(WAYS[0]))
            conflicts += [0, 3, 4] in expected
            self.assertEqual(expected[0], [len(numbers)])
            for way in WAYS:
                spread = calls + merges(way)
                self.assertTrue(all(answer[0] >= 0 for answer in ask(*spread)[len(calls):]))
                for j in range(3):
                    self.assertEqual(everything(j, numbers, *spread), expected)
                    self.assertEqual(last(*spread, lacks(j, (j + 1) % 3)), [0])
                    self.assertEqual(last(*spread, merge(j, (j + 1) % 3)), [0])
        self.assertGreater(conflicts, 3)

    def test_groups(self):
        chance = random.Random(12)
        for turn in range(20):
            calls = desk_calls(chance, 30)
            left = contents(*calls, merge(0, 1), merge(0, 2))[0]
            right = contents(*calls, merge(1, 2), merge(0, 1))[0]
            other = contents(*calls, merge(2, 0), merge(1, 2))[1]
            self.assertEqual(left, right)
            self.assertEqual(left, other)

    def test_the_union_has_just_what_each_has(self):
        chance = random.Random(13)
        for turn in range(20):
            calls = desk_calls(chance, 30)
            one, other, third = contents(*calls)
            new = [told for told in other if told not in one]
            self.assertEqual(last(*calls, lacks(0, 1)), [len(new) // 2])
            self.assertEqual(last(*calls, merge(0, 1)), [len(new) // 2])
            merged = contents(*calls, merge(0, 1))
            self.assertEqual(merged[0], sorted(one + new, key=lambda told: told[1]))
            self.assertEqual(merged[1:], [other, third])

    def test_a_refused_merge_changes_nothing(self):
        chance = random.Random(14)
        refused = 0
        for turn in range(60):
            calls = random_puts(chance, 8, 0) + random_puts(chance, 8, 1)
            before = contents(*calls)
            answer = last(*calls, merge(0, 1))
            mine = {told[1]: told for told in before[0][1::2]}
            rows = {told[1]: told for told in before[0][::2]}
            theirs = list(zip(before[1][::2], before[1][1::2]))
            differ = [k for k, (row, source) in enumerate(theirs)
                      if row[1] in mine and (rows[row[1]] != row or mine[row[1]] != source)]
            if differ:
                refused += 1
                self.assertEqual(answer, [-5, 7, differ[0]])
                self.assertEqual(contents(*calls, merge(0, 1)), before)
            else:
                self.assertEqual(answer, [len([row for row, source in theirs if row[1] not in mine])])
        self.assertGreater(refused, 10)
        self.assertLess(refused, 60)


class SpreadTest(unittest.TestCase):
    def test_records_brought_one_by_one(self):
        chance = random.Random(15)
        for turn in range(12):
            calls = desk_calls(chance, 45) + merges(WAYS[0])
            numbers = stamps_of(0, *calls)
            expected = everything(0, numbers, *calls)
            puts = puts_of(0, *calls)
            for again in range(4):
                brought = self.in_some_order(chance, puts)
                self.assertEqual(ask(*brought), [[1]] * len(puts))
                self.assertEqual(everything(0, numbers, *brought), expected)
                self.assertEqual(ask(*brought, *brought)[len(puts):], [[0]] * len(puts))

    def in_some_order(self, chance, puts):
        """The puts, each behind those of what its record is over."""
        waiting = list(puts)
        done = {}
        brought = []
        while waiting:
            free = [number for number in waiting if all(base in done for base in puts[number][0])]
            number = chance.choice(free)
            waiting.remove(number)
            done[number] = True
            brought.append(puts[number][1])
        return brought

    def test_put_and_merge_bring_the_same(self):
        chance = random.Random(16)
        for turn in range(20):
            calls = desk_calls(chance, 30)
            expected = contents(*calls, merge(0, 1))[0]
            puts = [one[1] for number, one in sorted(puts_of(1, *calls).items())]
            self.assertEqual(contents(*calls, *puts)[0], expected)


class SeenTest(unittest.TestCase):
    def look(self, calls):
        """A segment's records of kinds 1 to 3, which of them have seen which, and its heads, as they are told."""
        told = contents(*calls)[0][::2]
        work = [one[1] for one in told if one[2] < 4]
        pairs = [(a, b) for a in work for b in work]
        found = ask(*calls, *[seen(0, a, b) for a, b in pairs], *[head(0, 3, 4, k) for k in range(len(work) + 1)],
                    next_segment(0, 1), tally(0, 3))[len(calls):]
        sees = {pair: answer == [1] for pair, answer in zip(pairs, found)}
        heads = [answer[1] for answer in found[len(pairs):-2] if answer != [-2]]
        return (work, sees, heads, found[-2:])

    def test_heads_and_conflict(self):
        chance = random.Random(17)
        both = [0, 0]
        for turn in range(150):
            calls = random_puts(chance, chance.randint(1, 9))
            self.assertEqual(ask(*calls), [[1]] * len(calls))
            work, sees, heads, rest = self.look(calls)
            self.assertEqual(heads, [a for a in work if not any(sees[a, b] and a != b for b in work)])
            conflict = any(
                not sees[a, b] and not sees[b, a] and not any(sees[a, c] and sees[b, c] for c in work)
                for a in work for b in work
            )
            both[conflict] += 1
            self.assertEqual(rest[0], [0, 3, 4] if conflict else [-2])
            self.assertEqual(rest[1][6], 1 if conflict else 0)
            self.assertEqual(rest[1][0], 1 if work else 0)
            for a in work:
                self.assertTrue(any(sees[a, one] for one in heads))
        self.assertGreater(min(both), 20)

    def test_a_write_or_a_taking_back_leaves_one_head(self):
        chance = random.Random(18)
        for turn in range(60):
            calls = random_puts(chance, 12)
            for call in (write(0, 99, 99, 3, 4, 1, "", ""), back(0, 99, 99, 3, 4)):
                found = ask(*calls, call, head(0, 3, 4, 0), head(0, 3, 4, 1), next_segment(0, 1))[len(calls):]
                if found[0] == [0]:
                    self.assertEqual((found[1][1], found[1][4]), (stamp(99, 99), 1))
                    self.assertEqual(found[2:], [[-2], [-2]])
                else:
                    self.assertEqual((found[0], call[0]), ([-2], 3))


class EyesTest(unittest.TestCase):
    def test_what_stands_approved_was_approved_by_another(self):
        chance = random.Random(19)
        approved = 0
        for turn in range(60):
            calls = [put(0, stamp(0, who), 1, 3, 4, 1) for who in range(2)]
            numbers = [stamp(0, 0), stamp(0, 1)]
            for tick in range(1, 8):
                number = stamp(tick, chance.randrange(3))
                calls.append(put(0, number, 2, 3, 4, chance.choice((3, 4, 4)), [chance.choice(numbers)]))
                answer = last(*calls)
                self.assertIn(answer, ([1], [-3]))
                if answer == [1]:
                    numbers.append(number)
            told = [last(*calls, head(0, 3, 4, k)) for k in range(9)] + [last(*calls, stands(0, 3, 4))]
            for one in told:
                if one[0] == 0 and one[3] == 4:
                    approved += 1
                    self.assertNotEqual(one[1] % 256, one[5])
        self.assertGreater(approved, 60)


class KeptTest(unittest.TestCase):
    def test_nothing_is_lost_or_changed(self):
        chance = random.Random(20)
        for turn in range(6):
            calls = desk_calls(chance, 30) + random_puts(chance, 8, 0) + random_puts(chance, 8, 1) + merges(WAYS[5])
            chance.shuffle(calls)
            before = contents()
            for many in range(len(calls)):
                after = contents(*calls[:many + 1])
                for j in range(3):
                    self.assertEqual([told for told in before[j] if told not in after[j]], [])
                changed = [j for j in range(3) if before[j] != after[j]]
                answer = last(*calls[:many + 1])
                if answer[0] < 0:
                    self.assertEqual(changed, [])
                self.assertIn(changed, ([], [calls[many][1]]))
                before = after

    def test_each_target_told_fits_its_source(self):
        chance = random.Random(21)
        tags = ("{+1}", "{-1}", "{.2}", "{+3}", "a")
        taken = 0
        for turn in range(300):
            src = "".join(chance.sample(tags, 3))
            row = "".join(chance.sample(tags, 3))
            by_put = ask(put(0, stamp(1, 1), 1, 3, 4, 1, [], src, row), record(0, 0, 0), record(0, 0, 1))
            by_write = ask(write(0, 1, 1, 3, 4, 1, src, row), record(0, 0, 0), record(0, 0, 1))
            self.assertEqual(by_put[1:], by_write[1:])
            if by_put[0] == [1]:
                taken += 1
                self.assertEqual(sorted(src.replace("a", "")), sorted(row.replace("a", "")))
            else:
                self.assertEqual(by_put[0], by_write[0])
        self.assertGreater(taken, 10)


class OneTimeTest(unittest.TestCase):
    def test_a_second_time_the_same_is_answered(self):
        chance = random.Random(22)
        for turn in range(10):
            calls = desk_calls(chance, 40) + merges(chance.choice(WAYS))
            line = [number for call in calls + questions(1, [])[:100] for number in call]
            before = list(line)
            told = answers(line)
            self.assertEqual(line, before)
            self.assertEqual(answers(line), told)
            self.assertEqual(len(split(told)), len(calls) + len(questions(1, [])[:100]))


if __name__ == "__main__":
    unittest.main()
