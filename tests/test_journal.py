"""Point 23: journals."""

import random
import unittest

from sungbyturns.binary import encode_book, unpack_bytes
from sungbyturns.errors import BadBook, BadData, BadOperation, BadRecord, SongError
from sungbyturns.journal import encode_journal, encode_operation, record_ends, recover
from sungbyturns.session import Session, replay
from tests.plain_bytes import (
    book_bytes, complete_ends, journal_bytes, number_values, operation_of, payload_values, record,
)
from tests.plain_session import view_of
from tests.sample_books import NESTED, random_book
from tests.sample_operations import perform, random_operation

MOST = 10 ** 18
BAD_BOOK = ((("a", 1),),)
SMALL = ((("a",),),)
START = encode_book(SMALL)

# Every kind of operation, one after the other in a session of NESTED.
OPERATIONS = (
    ("next_word",), ("skip", 300), ("skip", MOST), ("create_branch", "b"), ("stop_song",), ("set_turn", 1, 2),
    ("replace_verse", 0, 1, ("abcdefgh", 1, 3, "a", 3, "zz")), ("skip", 0), ("undo",), ("switch_branch", "main"),
    ("delete_branch", "b"), ("undo",), ("undo",), ("skip", 127), ("skip", 128),
)

BAD_OPERATIONS = (
    (), ("fly",), ("",), ("next_word", 1), ("skip",), ("skip", 1, 2), ("set_turn", 1), ("undo", 1), ("create_branch",),
    ("apply", ()), ("history",), ("replace_verse", 0, 0), ("replace_verse", 0, 0, ("a",), 1),
    ("skip", -1), ("skip", MOST + 1), ("set_turn", -1, 0), ("set_turn", 0, -1), ("set_turn", MOST + 1, 0),
    ("set_turn", 0, MOST + 1), ("replace_verse", -1, 0, ("a",)), ("replace_verse", 0, MOST + 1, ("a",)),
    ("replace_verse", 0, 0, ()), ("replace_verse", 0, 0, []), ("replace_verse", 0, 0, ("a",) * 7),
    ("replace_verse", 0, 0, ("",)), ("replace_verse", 0, 0, ("abcdefghi",)), ("replace_verse", 0, 0, ("a", "B")),
    ("replace_verse", 0, 0, (-1,)), ("replace_verse", 0, 0, ("a", 60)), ("replace_verse", 0, 0, ["a", "b", "c", 187]),
    ("create_branch", ""), ("create_branch", "abcdefghi"), ("switch_branch", "A"), ("switch_branch", ""),
    ("delete_branch", "a b"), ("delete_branch", "a1"),
)


def recorded(chance, book, many):
    """A session that performed operations; those that failed are not in its history."""
    session = Session(book)
    for _ in range(many):
        try:
            perform(session, random_operation(chance, session.current_book(), session.branches()))
        except SongError:
            pass
    return session


def damaged(chance, payload):
    """A payload with a byte changed, added or removed."""
    at = chance.randint(0, len(payload))
    byte = chance.choice((0, 1, 2, 97, 122, 123, 127, 128, 129, 187, 188, 255))
    return payload[:at] + chance.choice(([], [byte], [byte], [byte, 0])) + payload[at + chance.choice((0, 1, 1)):]


class EncodeTest(unittest.TestCase):
    def check_payload(self, operation, payload):
        with self.subTest(operation=operation):
            data = encode_operation(operation)
            self.assertIs(type(data), bytes)
            self.assertEqual(data, record(payload))

    def test_letters(self):
        self.check_payload(("next_word",), [110])
        self.check_payload(("skip", 5), [107, 5])
        self.check_payload(("set_turn", 59, 3), [116, 59, 3])
        self.check_payload(("stop_song",), [115])
        self.check_payload(("replace_verse", 1, 2, ("ab", 59)), [114, 1, 2, 2, 2, 97, 98, 187])
        self.check_payload(("create_branch", "abcdefgh"), [99, 8, 97, 98, 99, 100, 101, 102, 103, 104])
        self.check_payload(("switch_branch", "main"), [98, 4, 109, 97, 105, 110])
        self.check_payload(("delete_branch", "z"), [100, 1, 122])
        self.check_payload(("undo",), [117])

    def test_numbers(self):
        for number, groups in (
            (0, [0]), (1, [1]), (127, [127]), (128, [128, 1]), (129, [129, 1]), (255, [255, 1]), (300, [172, 2]),
            (128 ** 2 - 1, [255, 127]), (128 ** 2, [128, 128, 1]), (128 ** 8 - 1, [255] * 7 + [127]),
            (128 ** 8, [128] * 8 + [1]), (MOST, [128, 128, 144, 187, 186, 214, 173, 240, 13]),
            (MOST - 1, [255, 255, 143, 187, 186, 214, 173, 240, 13]),
        ):
            self.assertEqual(number_values(number), groups)
            self.check_payload(("skip", number), [107] + groups)
            self.check_payload(("set_turn", number, 1), [116] + groups + [1])
            self.check_payload(("set_turn", 1, number), [116, 1] + groups)
            self.check_payload(("replace_verse", number, number, ("a",)), [114] + groups * 2 + [1, 1, 97])

    def test_items(self):
        for items in (("a",), (0,), (59,), ("abcdefgh",) * 6, (0, 1, 2, 3, 4, 5), ("a", 7, "b")):
            expected = payload_values(("replace_verse", 0, 0, items))
            self.check_payload(("replace_verse", 0, 0, items), expected)
            self.check_payload(("replace_verse", 0, 0, list(items)), expected)

    def test_longest_record(self):
        data = encode_operation(("replace_verse", MOST, MOST, ("abcdefgh",) * 6))
        self.assertEqual(unpack_bytes(data)[:2], [0, 1 + 9 + 9 + 1 + 6 * 9])
        self.assertEqual(len(data), 74 + 3)

    def test_bad_operations(self):
        for operation in BAD_OPERATIONS:
            with self.subTest(operation=operation):
                with self.assertRaises(BadOperation) as caught:
                    encode_operation(operation)
                self.assertEqual(vars(caught.exception), {"index": 0})
                with self.assertRaises(BadOperation) as caught:
                    encode_journal(SMALL, [("undo",), ("skip", 1), operation, ("fly",)])
                self.assertEqual(vars(caught.exception), {"index": 2})

    def test_journal(self):
        self.assertEqual(encode_journal(SMALL, []), START)
        self.assertEqual(encode_journal(NESTED, OPERATIONS), journal_bytes(NESTED, OPERATIONS))
        self.assertEqual(encode_journal(NESTED, list(OPERATIONS)), journal_bytes(NESTED, OPERATIONS))
        records = b"".join(encode_operation(operation) for operation in OPERATIONS)
        self.assertEqual(encode_journal(NESTED, OPERATIONS), encode_book(NESTED) + records)

    def test_operations_need_not_be_possible(self):
        operations = [("undo",), ("set_turn", 59, 9), ("delete_branch", "main"), ("replace_verse", 7, 7, (0,))]
        self.assertEqual(encode_journal(SMALL, operations), journal_bytes(SMALL, operations))

    def test_order_of_errors(self):
        with self.assertRaises(BadBook) as caught:
            encode_journal(BAD_BOOK, [("fly",)])
        self.assertEqual(vars(caught.exception), {"refrain": 0, "verse": 0})


class RecordsTest(unittest.TestCase):
    def check(self, data, ends):
        self.assertEqual(record_ends(data), ends)
        self.assertEqual(complete_ends(data, ends[0]), ends)

    def test_ends(self):
        self.check(START, [7])
        self.check(START + record([117]), [7, 11])
        self.check(START + record([117]) + record([107, 1]) + record([110]), [7, 11, 16, 20])
        # What a payload says does not matter here.
        self.check(START + record([]), [7, 10])
        self.check(START + record([]) * 3, [7, 10, 13, 16])
        self.check(START + record([255]) + record([7] * 255), [7, 11, 269])
        self.check(START + record([7] * 256), [7, 266])
        self.check(START + record([7] * 65535) + record([]), [7, 65545, 65548])

    def test_incomplete_records(self):
        whole = record([107, 5])
        for size in range(len(whole)):
            self.check(START + whole[:size], [7])
            self.check(START + whole + whole[:size], [7, 12])
        for checksum in range(256):
            if checksum != whole[-1]:
                # Reading stops there, though complete records follow.
                self.check(START + whole + whole[:-1] + bytes([checksum]) + whole * 2, [7, 12])
        self.check(START + b"\xff", [7])
        self.check(START + b"\xff\xff" + b"\x00" * 300, [7])
        self.check(START + b"\x00" * 9, [7, 10, 13, 16])
        self.check(START + b"\x00" * 8, [7, 10, 13])

    def test_bad_books(self):
        data = encode_journal(NESTED, OPERATIONS)
        start = len(encode_book(NESTED))
        for call in (record_ends, recover):
            for size in range(start):
                with self.assertRaises(BadData) as caught:
                    call(data[:size])
                self.assertEqual(vars(caught.exception), {"offset": size})
            for offset, byte in ((0, 67), (1, 0), (2, 5), (start - 1, data[start - 1] ^ 1)):
                with self.assertRaises(BadData) as caught:
                    call(data[:offset] + bytes([byte]) + data[offset + 1:])
                self.assertEqual(vars(caught.exception), {"offset": offset})
            with self.assertRaises(BadBook) as caught:
                call(book_bytes(((("a",), (1,)),)) + record([117]))
            self.assertEqual(vars(caught.exception), {"refrain": 0, "verse": 1})

    def test_list_may_be_changed(self):
        data = START + record([117])
        record_ends(data).clear()
        self.assertEqual(record_ends(data), [7, 11])


class RecoverTest(unittest.TestCase):
    def check_bad_record(self, data, index):
        with self.subTest(data=list(data)), self.assertRaises(BadRecord) as caught:
            recover(data)
        self.assertEqual(vars(caught.exception), {"index": index})

    def check_recovered(self, data, book, operations, rest=0):
        session, left = recover(data)
        self.assertEqual(view_of(session), view_of(replay(book, operations)))
        self.assertEqual(left, rest)

    def test_every_operation(self):
        data = encode_journal(NESTED, OPERATIONS)
        self.check_recovered(data, NESTED, OPERATIONS)
        found = recover(data)
        self.assertIs(type(found), tuple)
        self.assertIs(type(found[0]), Session)
        self.assertEqual({type(part) for told in found[0].history() for part in told}, {str, int, tuple})

    def test_goes_on_like_the_recorded_session(self):
        chance = random.Random(231)
        for _ in range(60):
            book = random_book(chance)
            session = recorded(chance, book, 30)
            recovered, rest = recover(encode_journal(book, session.history()))
            self.assertEqual(rest, 0)
            self.assertEqual(view_of(recovered), view_of(session))
            self.assertEqual(recovered.next_word(), session.next_word())
            while session.undo():
                self.assertIs(recovered.undo(), True)
                self.assertEqual(view_of(recovered), view_of(session))
            self.assertIs(recovered.undo(), False)

    def test_cut_at_every_offset(self):
        chance = random.Random(232)
        data = encode_journal(NESTED, OPERATIONS)
        ends = record_ends(data)
        self.assertEqual((len(ends), ends[-1]), (len(OPERATIONS) + 1, len(data)))
        for size in range(ends[0], len(data) + 1):
            complete = [end for end in ends if end <= size]
            with self.subTest(size=size):
                self.assertEqual(record_ends(data[:size]), complete)
                self.check_recovered(data[:size], NESTED, OPERATIONS[:len(complete) - 1], size - complete[-1])
        noise = bytes(chance.randrange(9, 256) for _ in range(50))
        for more in (b"\x00", b"\xff", b"\x00\x01u", b"\x00\x01u\x00", noise):
            self.assertEqual(record_ends(data + more), ends)
            self.check_recovered(data + more, NESTED, OPERATIONS, len(more))

    def test_one_byte_changed(self):
        data = encode_journal(NESTED, OPERATIONS)
        ends = record_ends(data)
        for offset in range(ends[0], len(data)):
            for change in (1, 2, 128, 255):
                changed = data[:offset] + bytes([(data[offset] + change) % 256]) + data[offset + 1:]
                complete = complete_ends(changed, ends[0])
                self.assertEqual(record_ends(changed), complete)
                # The records before the changed one are as they were; a sum of bytes hides no single change,
                # except one by 251, and lengths may run into the bytes that follow.
                before = [end for end in ends if end <= offset]
                self.assertEqual(complete[:len(before)], before)
                if complete == before:
                    self.check_recovered(changed, NESTED, OPERATIONS[:len(before) - 1], len(data) - before[-1])

    def test_checksums_off_by_one(self):
        for number, operation in enumerate(OPERATIONS):
            records = [encode_operation(told) for told in OPERATIONS]
            for change in (-1, 1):
                broken = list(records)
                last = (broken[number][-1] + change) % 256
                broken[number] = broken[number][:-1] + bytes([last])
                data = encode_book(NESTED) + b"".join(broken)
                self.check_recovered(data, NESTED, OPERATIONS[:number], len(b"".join(broken[number:])))

    def test_bad_payloads(self):
        a = [1, 97]
        for payload in (
            [], [0], [65], [118], [78], [255], [110, 0], [110, 110], [115, 0], [117, 0], [117, 117],
            [107], [107, 1, 0], [107, 128], [107] + [128] * 8, [107] + [128] * 9, [107] + [128] * 9 + [0],
            [107] + [255] * 9, [107] + [255] * 9 + [0], [116], [116, 0], [116, 0, 128], [116, 0, 0, 0],
            [99], [99, 0], [99, 1], [99, 2, 97], [99, 1, 97, 97], [99, 9] + [97] * 9, [99, 1, 96], [99, 1, 123],
            [99, 1, 65], [98], [98, 0], [98, 4, 109, 97, 105], [98, 4, 109, 97, 105, 110, 0], [100, 0], [100],
            [114], [114, 0], [114, 0, 0], [114, 0, 0, 0], [114, 0, 0, 1], [114, 0, 0, 2] + a, [114, 0, 0, 1] + a * 2,
            [114, 0, 0, 7] + a * 7, [114, 0, 0, 1, 0], [114, 0, 0, 1, 9] + [97] * 9, [114, 0, 0, 1, 127],
            [114, 0, 0, 1, 188], [114, 0, 0, 1, 255], [114, 0, 0, 1, 1, 65], [114, 128, 128], [114, 0, 0, 1, 2, 97],
            [110] * 300,
        ):
            self.check_bad_record(START + record(payload), 0)
            good = record([107, 7]) + record([110])
            self.check_bad_record(START + good + record(payload), 2)
            # Whatever follows.
            self.check_bad_record(START + good + record(payload) + good + record([0]) + b"\xff", 2)

    def test_operations_that_fail(self):
        for operation in (
            ("set_turn", 1, 0), ("set_turn", 0, 1), ("set_turn", MOST, 0), ("set_turn", 0, MOST),
            ("create_branch", "main"), ("switch_branch", "b"), ("delete_branch", "main"), ("delete_branch", "b"),
            ("replace_verse", 1, 0, ("a",)), ("replace_verse", 0, 1, ("a",)), ("replace_verse", 0, 0, (0,)),
            ("replace_verse", 0, 0, ("a", 1)), ("replace_verse", 0, 0, (59,)),
        ):
            self.check_bad_record(START + encode_operation(operation), 0)
            self.check_bad_record(encode_journal(SMALL, [("next_word",), ("undo",), operation, ("undo",)]), 2)
        # A refrain that is being sung.
        for operation in (("set_turn", 0, 0), ("replace_verse", 0, 0, ("a",))):
            self.check_bad_record(encode_journal(((("a", "b"),),), [("next_word",), operation]), 1)
            self.check_recovered(encode_journal(((("a", "b"),),), [operation]), ((("a", "b"),),), [operation])

    def test_numbers_that_are_too_large(self):
        self.check_recovered(START + record([107] + number_values(MOST)), SMALL, [("skip", MOST)])
        for number in (MOST + 1, 2 ** 62, 2 ** 63 - 1):
            self.check_bad_record(START + record([107] + number_values(number)), 0)
        self.assertEqual(len(number_values(2 ** 63 - 1)), 9)
        self.check_bad_record(START + record([107] + number_values(2 ** 63)), 0)

    def test_superfluous_groups(self):
        for number in (0, 1, 127, 128, 300, 10 ** 9):
            groups = number_values(number)
            for size in range(len(groups), 13):
                longer = groups[:]
                while len(longer) < size:
                    longer[-1] += 128
                    longer.append(0)
                data = START + record([107] + longer)
                if size <= 9:
                    self.check_recovered(data, SMALL, [("skip", number)])
                else:
                    self.check_bad_record(data, 0)
        zero = [128] * 8 + [0]
        self.check_recovered(START + record([116] + zero + zero), SMALL, [("set_turn", 0, 0)])
        data = START + record([114] + zero + [128, 0, 1, 1, 98])
        self.check_recovered(data, SMALL, [("replace_verse", 0, 0, ("b",))])
        # Encoded again, they are gone.
        session, _ = recover(START + record([107, 133, 0]))
        self.assertEqual(encode_journal(SMALL, session.history()), START + record([107, 5]))

    def test_undo_of_nothing(self):
        session, rest = recover(encode_journal(SMALL, [("undo",), ("next_word",), ("undo",), ("undo",)]))
        self.assertEqual((session.history(), rest), ([("next_word",), ("undo",)], 0))

    def test_many_records(self):
        operations = [("skip", MOST)] + [("skip", 100), ("next_word",), ("undo",)] * 1000
        data = encode_journal(NESTED, operations)
        self.assertEqual(len(record_ends(data)), 3002)
        session, rest = recover(data + b"\x00")
        self.assertEqual((session.word_count(), rest), (MOST + 100000, 1))
        self.assertEqual(session.history(), operations)

    def test_damaged_payloads(self):
        chance = random.Random(233)
        bad = 0
        for _ in range(1500):
            book = random_book(chance)
            history = recorded(chance, book, 6).history()
            payloads = [payload_values(operation) for operation in history]
            for _ in range(chance.choice((0, 1, 1, 2))):
                at = chance.randrange(len(payloads)) if payloads else 0
                payloads[at:at + 1] = [damaged(chance, payload) for payload in payloads[at:at + 1]]
            data = book_bytes(book) + b"".join(map(record, payloads)) + b"\x01"
            self.assertEqual(len(record_ends(data)), len(payloads) + 1)
            operations = [operation_of(payload) for payload in payloads]
            failing = self.first_failing(book, operations)
            if failing is None:
                self.check_recovered(data, book, operations, 1)
            else:
                bad += 1
                self.check_bad_record(data, failing)
        self.assertGreater(bad, 300)

    def first_failing(self, book, operations):
        session = Session(book)
        for index, operation in enumerate(operations):
            try:
                if operation is None:
                    return index
                perform(session, operation)
            except SongError:
                return index
        return None


if __name__ == "__main__":
    unittest.main()
