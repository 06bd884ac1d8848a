"""stands, head, said and next: what they answer, and each refusal."""

import unittest

from helper import MOST, ask, back, head, last, next_segment, remark, rule, said, stamp, stands, told, write

WORK = [
    write(0, 1, 1, 2, 7, 1, "s27", "t27"),
    rule(0, 2, 2, 2, 7, 4),
    write(0, 3, 3, 2, 9, 2, "s29", "t29"),
    back(0, 3, 4, 2, 9),
    remark(0, 4, 5, 5, 1, "first"),
    remark(0, 3, 5, 5, 1, "before it"),
    write(0, 5, 6, 5, 0, 3, "s50", "t50"),
    remark(0, 5, 7, 5, 0, "on 5 0"),
    write(1, 1, 1, 2, 7, 3, "other", "journal"),
]


def look(call):
    return last(*WORK, call)


class StandsTest(unittest.TestCase):
    def test_what_stands(self):
        self.assertEqual(look(stands(0, 2, 7, 0)), told(2, 2, 2, 4, 1, 1, "t27"))
        self.assertEqual(look(stands(0, 2, 7, 1)), told(2, 2, 2, 4, 1, 1, "s27"))
        self.assertEqual(look(stands(0, 5, 0, 0)), told(6, 5, 1, 3, 1, 5, "t50"))

    def test_nothing_stands(self):
        for doc, seg in ((2, 9), (5, 1), (2, 8), (7, 2), (0, 0), (15, 65535)):
            self.assertEqual(look(stands(0, doc, seg, 0)), [-2])
            self.assertEqual(look(stands(0, doc, seg, 1)), [-2])

    def test_journals_stand_beside_one_another(self):
        self.assertEqual(look(stands(1, 2, 7, 0)), told(1, 1, 1, 3, 1, 1, "journal"))
        self.assertEqual(look(stands(2, 2, 7, 0)), [-2])
        self.assertEqual(look(stands(1, 5, 0, 0)), [-2])

    def test_refusals(self):
        self.assertEqual(look(stands(0, 16, 7, 0)), [-6])
        self.assertEqual(look(stands(0, 2, 65536, 0)), [-6])
        self.assertEqual(look(stands(3, 16, 7, 2)), [-6])
        self.assertEqual(look(stands(3, 2, 7, 0)), [-1])
        self.assertEqual(look(stands(0, 2, 7, 2)), [-1])
        self.assertEqual(look(stands(0, 2, 8, 2)), [-1])
        self.assertEqual(look(stands(MOST, MOST, MOST, MOST)), [-6])
        self.assertEqual(look(stands(MOST, 0, 0, MOST)), [-1])


class HeadTest(unittest.TestCase):
    def test_heads(self):
        self.assertEqual(look(head(0, 2, 7, 0, 0)), told(2, 2, 2, 4, 1, 1, "t27"))
        self.assertEqual(look(head(0, 2, 7, 0, 1)), told(2, 2, 2, 4, 1, 1, "s27"))
        self.assertEqual(look(head(0, 5, 0, 0, 0)), told(6, 5, 1, 3, 1, 5, "t50"))

    def test_a_taking_back_is_a_head(self):
        self.assertEqual(look(head(0, 2, 9, 0, 0)), [0, stamp(4, 3), 3, 0, 1, 3, 0])
        self.assertEqual(look(head(0, 2, 9, 0, 1)), [0, stamp(4, 3), 3, 0, 1, 3, 0])

    def test_no_such_head(self):
        self.assertEqual(look(head(0, 2, 7, 1)), [-2])
        self.assertEqual(look(head(0, 2, 7, MOST)), [-2])
        self.assertEqual(look(head(0, 5, 1, 0)), [-2])
        self.assertEqual(look(head(0, 2, 8, 0)), [-2])
        self.assertEqual(look(head(2, 2, 7, 0)), [-2])

    def test_refusals(self):
        self.assertEqual(look(head(0, 16, 7, 0)), [-6])
        self.assertEqual(look(head(0, 2, 65536, 0)), [-6])
        self.assertEqual(look(head(3, 2, 65536, 0, 2)), [-6])
        self.assertEqual(look(head(3, 2, 7, 0)), [-1])
        self.assertEqual(look(head(0, 2, 7, 0, 2)), [-1])
        self.assertEqual(look(head(0, 2, 7, 9, 2)), [-1])


class SaidTest(unittest.TestCase):
    def test_remarks_in_the_order_of_their_stamps(self):
        self.assertEqual(look(said(0, 5, 1, 0)), [0, stamp(5, 3), 9] + list(b"before it"))
        self.assertEqual(look(said(0, 5, 1, 1)), [0, stamp(5, 4), 5] + list(b"first"))
        self.assertEqual(look(said(0, 5, 0, 0)), [0, stamp(7, 5), 6] + list(b"on 5 0"))

    def test_there_is_none(self):
        self.assertEqual(look(said(0, 5, 1, 2)), [-2])
        self.assertEqual(look(said(0, 5, 1, MOST)), [-2])
        self.assertEqual(look(said(0, 2, 7, 0)), [-2])
        self.assertEqual(look(said(0, 1, 5, 0)), [-2])
        self.assertEqual(look(said(1, 5, 1, 0)), [-2])

    def test_refusals(self):
        self.assertEqual(look(said(0, 16, 1, 0)), [-6])
        self.assertEqual(look(said(0, 5, 65536, 0)), [-6])
        self.assertEqual(look(said(3, 16, 1, 0)), [-6])
        self.assertEqual(look(said(3, 5, 1, 0)), [-1])


class NextTest(unittest.TestCase):
    def walk(self, what, *work):
        """All segments of which it's so, in order."""
        found = []
        doc = 0
        seg = 0
        while True:
            answer = last(*work, next_segment(0, what, doc, seg))
            if answer == [-2]:
                return found
            self.assertEqual((answer[0], len(answer)), (0, 3))
            doc = answer[1]
            seg = answer[2]
            self.assertNotIn((doc, seg), found)
            found.append((doc, seg))
            if (doc, seg) == (15, 65535):
                return found
            doc, seg = (doc, seg + 1) if seg < 65535 else (doc + 1, 0)

    def test_each_what(self):
        self.assertEqual(self.walk(0, *WORK), [(2, 7), (2, 9), (5, 0), (5, 1)])
        self.assertEqual(self.walk(1, *WORK), [])
        self.assertEqual(self.walk(2, *WORK), [(2, 7), (5, 0)])
        self.assertEqual(self.walk(3, *WORK), [(5, 0), (5, 1)])

    def test_first_and_last_segments(self):
        names = [(0, 0), (0, 65535), (1, 0), (14, 65535), (15, 0), (15, 65535)]
        work = [write(0, 1, 50 - place, doc, seg, 1, "", "") for place, (doc, seg) in enumerate(names)]
        self.assertEqual(self.walk(0, *work), names)
        self.assertEqual(self.walk(2, *work), names)

    def test_at_and_behind(self):
        self.assertEqual(look(next_segment(0, 0, 2, 7)), [0, 2, 7])
        self.assertEqual(look(next_segment(0, 0, 2, 8)), [0, 2, 9])
        self.assertEqual(look(next_segment(0, 2, 2, 8)), [0, 5, 0])
        self.assertEqual(look(next_segment(0, 0, 2, 65535)), [0, 5, 0])
        self.assertEqual(look(next_segment(0, 0, 5, 2)), [-2])
        self.assertEqual(look(next_segment(0, 0, 15, 65535)), [-2])
        self.assertEqual(look(next_segment(1, 0, 0, 0)), [0, 2, 7])
        self.assertEqual(look(next_segment(2, 0, 0, 0)), [-2])

    def test_refusals(self):
        self.assertEqual(look(next_segment(0, 0, 16, 0)), [-6])
        self.assertEqual(look(next_segment(0, 0, 0, 65536)), [-6])
        self.assertEqual(look(next_segment(3, 4, 16, 0)), [-6])
        self.assertEqual(look(next_segment(3, 0)), [-1])
        self.assertEqual(look(next_segment(0, 4)), [-1])
        self.assertEqual(look(next_segment(2, 4)), [-1])
        self.assertEqual(look(next_segment(0, MOST)), [-1])

    def test_many_segments(self):
        work = [write(0, 1, 1000 - seg, seg % 16, seg, 1, "", "") for seg in range(256)]
        names = sorted((seg % 16, seg) for seg in range(256))
        questions = [next_segment(0, 2, 0, 0)] + [next_segment(0, 2, doc, seg + 1) for doc, seg in names[:-1][:140]]
        found = ask(*work, *questions)[256:]
        self.assertEqual(found, [[0, doc, seg] for doc, seg in names[:141]])


if __name__ == "__main__":
    unittest.main()
