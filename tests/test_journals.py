"""[j3] journals, [j4] cutting, changing a byte and recovering, sealing and choosing."""

import random
import time
import unittest

from corpuskeep.journals import choose, empty_journal, extend, is_sealed, recover, seal
from corpuskeep.records import write_deed, write_record
from tests.samples import random_deed
from tests.test_records import DEEDS, plain_deed, plain_record

HEADER = [67, 75, 1]
SHORT = [("rules", "a\n"), ("add", 300, "s", "x"), ("exams", ["b", ""]), ("publish",), ("remove", 300)]


def journal_of(deeds):
    journal = empty_journal()
    for deed in deeds:
        journal = extend(journal, deed)
    return journal


def ends_of(deeds):
    """Return the numbers of bytes of the journals of the first deeds, from none to all."""
    ends = [3]
    for n, deed in enumerate(deeds):
        ends.append(ends[-1] + len(plain_record(n, plain_deed(deed))))
    return ends


def with_bodies(bodies):
    data = list(HEADER)
    for n, body in enumerate(bodies):
        data += plain_record(n, body)
    return data


class BytesTest(unittest.TestCase):
    def test_the_empty_journal(self):
        self.assertEqual(empty_journal(), HEADER)
        self.assertEqual(recover(HEADER), ([], 3))

    def test_the_records(self):
        self.assertEqual(journal_of(DEEDS), with_bodies([plain_deed(deed) for deed in DEEDS]))

    def test_many_records(self):
        deeds = [("remove", number) for number in range(600)]
        journal = journal_of(deeds)
        self.assertEqual(journal, with_bodies([plain_deed(deed) for deed in deeds]))
        self.assertEqual(recover(journal), (deeds, len(journal)))

    def test_extending_makes_a_new_list(self):
        journal = journal_of(SHORT)
        before = list(journal)
        longer = extend(journal, ("publish",))
        self.assertEqual(journal, before)
        longer.clear()
        self.assertEqual(journal, before)
        self.assertEqual(extend(journal, ("publish",))[:len(before)], before)


class RecoverTest(unittest.TestCase):
    def test_a_whole_journal(self):
        source = random.Random(41)
        for _ in range(30):
            deeds = [random_deed(source, range(9)) for _ in range(source.randrange(12))]
            journal = journal_of(deeds)
            self.assertEqual(recover(journal), (deeds, len(journal)))

    def test_cut_after_every_number_of_bytes(self):
        for deeds in (SHORT, DEEDS, []):
            journal = journal_of(deeds)
            ends = ends_of(deeds)
            for cut in range(len(journal) + 1):
                whole = sum(end <= cut for end in ends) - 1
                wanted = (deeds[:whole], ends[whole]) if whole >= 0 else ([], 0)
                found = recover(journal[:cut])
                self.assertEqual(found, wanted)
                self.assertEqual(recover(journal[:cut][:found[1]]), wanted)

    def test_each_byte_changed_to_each_other_one(self):
        journal = journal_of(SHORT)
        ends = ends_of(SHORT)
        for at in range(len(journal)):
            whole = sum(end <= at for end in ends) - 1
            wanted = (SHORT[:whole], ends[whole]) if whole >= 0 else ([], 0)
            for byte in range(256):
                if byte != journal[at]:
                    data = journal[:at] + [byte] + journal[at + 1:]
                    self.assertEqual(recover(data), wanted)
            self.assertEqual(recover(data[:wanted[1]]), wanted)

    def test_no_header(self):
        record = write_record(0, write_deed(("publish",)))
        for data in ([], [67], [67, 75], [67, 75, 2], [75, 67, 1] + record, record, [0] + HEADER + record):
            self.assertEqual(recover(data), ([], 0))

    def test_a_record_whose_body_is_no_deed(self):
        for body in ([], [0], [7], [3], [6, 6], [4, 1, 10], [3, 133, 0]):
            data = with_bodies([[6], [3, 5], body, [6]])
            self.assertEqual(recover(data), ([("publish",), ("remove", 5)], ends_of([("publish",), ("remove", 5)])[2]))

    def test_a_record_at_another_place(self):
        journal = journal_of(SHORT)
        ends = ends_of(SHORT)
        for first, second in ((0, 1), (1, 2), (2, 4)):
            without = journal[:ends[first]] + journal[ends[second]:]
            self.assertEqual(recover(without), (SHORT[:first], ends[first]))
            twice = journal[:ends[second]] + journal[ends[first]:]
            self.assertEqual(recover(twice), (SHORT[:second], ends[second]))

    def test_bytes_behind_the_last_record(self):
        journal = journal_of(SHORT)
        for rest in ([0], [6], HEADER, journal):
            self.assertEqual(recover(journal + rest), (SHORT, len(journal)))

    def test_data_is_not_changed_and_deeds_are_new(self):
        journal = journal_of(SHORT)
        before = list(journal)
        deeds, _ = recover(journal)
        deeds[2][1].append("spoiled")
        deeds.clear()
        self.assertEqual(journal, before)
        self.assertEqual(recover(journal)[0], SHORT)

    def test_a_long_journal(self):
        deeds = [("replace", number, "abc " * 100) for number in range(500)]
        journal = with_bodies([plain_deed(deed) for deed in deeds])
        begin = time.perf_counter()
        self.assertEqual(recover(journal), (deeds, len(journal)))
        for _ in range(20):
            extend(journal, ("publish",))
        self.assertLess(time.perf_counter() - begin, 4)


class SealTest(unittest.TestCase):
    def test_the_bytes_of_a_seal(self):
        for deeds in ([], SHORT, DEEDS):
            journal = journal_of(deeds)
            sealed = seal(journal)
            self.assertEqual(sealed, journal + plain_record(len(deeds), [7]))
            self.assertEqual(journal, journal_of(deeds))
            self.assertIs(is_sealed(sealed), True)
            self.assertIs(is_sealed(journal), False)
            self.assertEqual(recover(sealed), (deeds, len(journal)))

    def test_cut_anywhere(self):
        sealed = seal(journal_of(SHORT))
        for cut in range(len(sealed)):
            self.assertIs(is_sealed(sealed[:cut]), False)

    def test_each_byte_changed(self):
        sealed = seal(journal_of(SHORT))
        for at in range(len(sealed)):
            for byte in {0, 6, 7, 255, (sealed[at] + 1) % 256} - {sealed[at]}:
                self.assertIs(is_sealed(sealed[:at] + [byte] + sealed[at + 1:]), False)

    def test_a_byte_behind(self):
        sealed = seal(journal_of(SHORT))
        for byte in range(256):
            self.assertIs(is_sealed(sealed + [byte]), False)

    def test_a_seal_in_the_middle(self):
        self.assertIs(is_sealed(with_bodies([[6], [7]])), True)
        for bodies in ([[7], [6]], [[7], [6], [7]], [[6], [7], [7]], [[7], [7]]):
            self.assertIs(is_sealed(with_bodies(bodies)), False)

    def test_bodies_that_are_no_seal(self):
        for body in ([], [6], [8], [7, 7], [0, 7], [135, 0]):
            self.assertIs(is_sealed(with_bodies([[6], body])), False)

    def test_a_body_that_is_no_deed_before_the_seal(self):
        self.assertIs(is_sealed(with_bodies([[6], [0], [7]])), False)

    def test_a_seal_with_another_number(self):
        journal = journal_of(SHORT)
        for n in (0, 4, 6):
            self.assertIs(is_sealed(journal + plain_record(n, [7])), False)

    def test_no_header(self):
        for data in ([], plain_record(0, [7]), [67, 75, 2] + plain_record(0, [7])):
            self.assertIs(is_sealed(data), False)


class ChooseTest(unittest.TestCase):
    OLD = journal_of(SHORT)
    NEW = journal_of(SHORT[:2])

    def test_a_whole_new_journal(self):
        self.assertEqual(choose(self.OLD, seal(self.NEW)), self.NEW)
        self.assertEqual(choose([], seal(self.NEW)), self.NEW)
        self.assertEqual(choose(self.OLD, seal(HEADER)), HEADER)

    def test_a_partly_written_new_journal(self):
        sealed = seal(self.NEW)
        for cut in range(len(sealed)):
            self.assertEqual(choose(self.OLD, sealed[:cut]), self.OLD)

    def test_a_new_journal_with_something_behind(self):
        self.assertEqual(choose(self.OLD, seal(self.NEW) + [0]), self.OLD)

    def test_an_old_journal_that_is_cut(self):
        ends = ends_of(SHORT)
        for cut in range(len(self.OLD) + 1):
            whole = max([end for end in ends if end <= cut], default=0)
            self.assertEqual(choose(self.OLD[:cut], self.NEW), self.OLD[:whole])

    def test_an_old_journal_that_is_sealed(self):
        self.assertEqual(choose(seal(self.OLD), self.NEW), self.OLD)
        self.assertEqual(choose(seal(self.OLD), []), self.OLD)

    def test_a_new_list(self):
        chosen = choose(self.OLD, [])
        chosen.append(0)
        self.assertEqual(self.OLD, journal_of(SHORT))
        sealed = seal(self.NEW)
        choose([], sealed).append(0)
        self.assertEqual(sealed, seal(self.NEW))


if __name__ == "__main__":
    unittest.main()
