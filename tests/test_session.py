"""Points 15 and 16: sessions."""

import random
import unittest

from sungbyturns.errors import BadBook, BadBranch, BadCount, BadOperation, BadRefrain, NoBranch, RefrainBusy, SongError
from sungbyturns.positions import advance, word_at
from sungbyturns.session import Session, replay
from sungbyturns.states import initial_state
from tests.plain_session import PlainSession, view_of
from tests.sample_books import NESTED, SONG, random_book, thicket
from tests.sample_operations import perform, random_operation

MOST = 10 ** 18
BOOK = ((("la", 1), ("lo",)), (("a",), ("b", "c")))
BAD_BOOK = ((("a", 1),),)

# Every kind of operation, valid for a session of BOOK in which no song is being sung.
KINDS = (
    ("next_word",), ("skip", 0), ("skip", 5), ("set_turn", 1, 1), ("set_turn", 0, 0), ("stop_song",),
    ("replace_verse", 1, 0, ("x", "y")), ("create_branch", "new"), ("switch_branch", "main"),
)


def outcome(action, *arguments):
    """What an action returns, or which error it raises."""
    try:
        return ("returned", action(*arguments))
    except SongError as error:
        return ("raised", type(error), vars(error))


class ModelTest(unittest.TestCase):
    """Against a session that sings word by word."""

    def test_operations_one_by_one(self):
        chance = random.Random(15)
        wrong = performed = 0
        for number in range(60):
            book = random_book(chance)
            session, plain = Session(book), PlainSession(book)
            for _ in range(50):
                operation = random_operation(chance, session.current_book(), session.branches())
                expected = outcome(plain.run, operation)
                self.assertEqual(outcome(perform, session, operation), expected, operation)
                self.assertEqual(view_of(session), plain.view())
                wrong += expected[0] == "raised"
                performed += 1
            if number % 4 == 0:
                self.check_differences(session, plain)
            self.undo_all(session, plain, book)
        self.assertGreater(wrong, performed // 8)

    def check_differences(self, session, plain):
        for name in session.branches():
            self.assertEqual(session.difference_from(name), plain.difference_from(name))

    def undo_all(self, session, plain, book):
        while plain.undo():
            self.assertIs(session.undo(), True)
            self.assertEqual(view_of(session), plain.view())
        self.assertIs(session.undo(), False)
        self.assertEqual(view_of(session), plain.view())
        self.assertEqual(view_of(session)[1:], (["main"], "main", book, initial_state(book), 0))

    def test_apply(self):
        chance = random.Random(16)
        kinds = set()
        for _ in range(60):
            book = random_book(chance)
            session, plain = Session(book), PlainSession(book)
            for _ in range(12):
                operations = self.random_operations(chance, session)
                expected = outcome(plain.run_all, operations)
                kinds.add(expected[:2] if expected[0] == "raised" else expected[0])
                self.assertEqual(outcome(session.apply, operations), expected)
                self.assertEqual(view_of(session), plain.view())
            self.undo_all(session, plain, book)
        self.assertGreater(len(kinds), 6)

    def random_operations(self, chance, session):
        operations = []
        for _ in range(chance.randint(0, 4)):
            operations.append(random_operation(chance, session.current_book(), session.branches()))
        if chance.random() < 0.2:
            operations.insert(chance.randint(0, len(operations)), chance.choice(MALFORMED))
        return chance.choice((tuple, list))(operations)

    def test_replay(self):
        chance = random.Random(17)
        failed = 0
        for _ in range(150):
            book = random_book(chance)
            session = Session(book)
            operations = [*self.random_operations(chance, session), *self.random_operations(chance, session)]
            plain = PlainSession(book)
            failing = None
            for index, operation in enumerate(operations):
                if outcome(plain.run_all, [operation])[0] == "raised":
                    failing = index
                    break
            if failing is None:
                self.assertEqual(view_of(replay(book, operations)), plain.view())
                self.assertEqual(view_of(replay(book, tuple(operations))), plain.view())
            else:
                failed += 1
                self.assertEqual(outcome(replay, book, operations), ("raised", BadOperation, {"index": failing}))
        self.assertGreater(failed, 20)


MALFORMED = (
    (), ("fly",), ("",), ("next_word", 1), ("skip",), ("skip", 1, 2), ("set_turn", 0), ("set_turn", 0, 0, 0),
    ("stop_song", 0), ("replace_verse", 0, 0), ("replace_verse", 0, 0, ("a",), 0), ("create_branch",),
    ("create_branch", "b", "c"), ("switch_branch",), ("delete_branch",), ("undo", 1), ("apply", ()), ("history",),
    ("word_count",), ("difference_from", "main"), ("perform", ("next_word",)), ("__init__", BOOK), ("Next_word",),
)


class OperationsTest(unittest.TestCase):
    def test_new_session(self):
        session = Session(BOOK)
        self.assertEqual(view_of(session), ([], ["main"], "main", BOOK, ((0, 0), ()), 0))
        with self.assertRaises(BadBook) as caught:
            Session(BAD_BOOK)
        self.assertEqual(vars(caught.exception), {"refrain": 0, "verse": 0})

    def test_results(self):
        session = Session(BOOK)
        self.assertEqual([session.next_word() for _ in range(7)], ["la", "a", "lo", "la", "b", "c", "lo"])
        self.assertEqual(session.word_count(), 7)
        self.assertIsNone(session.skip(0))
        self.assertEqual(session.skip(4), "la")
        for result in (
            session.set_turn(1, 0), session.stop_song(), session.replace_verse(1, 1, ["x"]),
            session.create_branch("b"), session.switch_branch("main"), session.delete_branch("b"),
        ):
            self.assertIsNone(result)
        self.assertIs(session.undo(), True)
        self.assertEqual(len(session.history()), 7 + 2 + 6 + 1)

    def test_skip(self):
        for book in (SONG, NESTED, thicket()):
            session = Session(book)
            state = initial_state(book)
            counts = (MOST, 1, 0, 12345, MOST, MOST - 1, 7)
            for count in counts:
                expected = word_at(book, state, count)[0] if count else None
                state = advance(book, state, count)
                self.assertEqual(session.skip(count), expected)
                self.assertEqual(session.current_state(), state)
            self.assertEqual(session.word_count(), sum(counts))
            self.assertEqual(session.history(), [("skip", count) for count in counts])

    def test_bad_skips(self):
        session = Session(BOOK)
        session.skip(4)
        before = view_of(session)
        for count in (-1, MOST + 1, -MOST):
            self.assertRaises(BadCount, session.skip, count)
            self.assertEqual(view_of(session), before)

    def test_skip_is_as_many_next_words(self):
        one, other = Session(thicket()), Session(thicket())
        words = [one.next_word() for _ in range(150)]
        for word in words:
            self.assertEqual(other.skip(1), word)
        third = Session(thicket())
        self.assertEqual(third.skip(150), words[-1])
        self.assertEqual(one.current_state(), other.current_state())
        self.assertEqual(one.current_state(), third.current_state())

    def test_errors_of_turns_and_verses(self):
        session = Session(BOOK)
        session.skip(5)
        self.assertEqual(session.current_state(), ((1, 0), ((0, 0, 1), (1, 1, 1))))
        before = view_of(session)
        for error, method, arguments in (
            (BadRefrain, session.set_turn, (2, 9)),
            (BadRefrain, session.set_turn, (-1, 0)),
            (BadCount, session.set_turn, (0, 2)),
            (BadCount, session.set_turn, (1, -1)),
            (RefrainBusy, session.set_turn, (0, 0)),
            (RefrainBusy, session.set_turn, (1, 1)),
            (BadRefrain, session.replace_verse, (2, 9, ())),
            (BadRefrain, session.replace_verse, (-1, 0, ("a",))),
            (RefrainBusy, session.replace_verse, (0, 9, ())),
            (RefrainBusy, session.replace_verse, (1, -1, (0,))),
            (RefrainBusy, session.replace_verse, (1, 0, ("a",))),
        ):
            with self.subTest(arguments=arguments):
                self.assertRaises(error, method, *arguments)
                self.assertEqual(view_of(session), before)

    def test_errors_of_verses_of_an_idle_refrain(self):
        session = Session(BOOK)
        session.skip(4)
        before = view_of(session)
        self.assertRaises(BadCount, session.replace_verse, 1, 2, ())
        self.assertRaises(BadCount, session.replace_verse, 1, -1, ("a",))
        for items in ((), [], ("a",) * 7, ("",), (1,), (2,), ["a", "B"]):
            with self.assertRaises(BadBook) as caught:
                session.replace_verse(1, 1, items)
            self.assertEqual(vars(caught.exception), {"refrain": 1, "verse": 1})
        self.assertEqual(view_of(session), before)

    def test_replaced_verses_while_a_song_is_sung(self):
        session = Session(BOOK)
        session.skip(4)
        session.replace_verse(1, 1, ["x", "y"])
        self.assertEqual([session.next_word() for _ in range(3)], ["x", "y", "lo"])
        self.assertEqual(session.current_book(), ((("la", 1), ("lo",)), (("a",), ("x", "y"))))
        self.assertEqual(session.history()[1], ("replace_verse", 1, 1, ("x", "y")))

    def test_items_are_not_kept(self):
        items = ["x"]
        session = Session(BOOK)
        session.replace_verse(1, 0, items)
        operation = ("replace_verse", 1, 1, items)
        session.apply([operation])
        items.append("z")
        self.assertEqual(session.current_book()[1], (("x",), ("x",)))
        expected = [("replace_verse", 1, 0, ("x",)), ("replace_verse", 1, 1, ("x",))]
        self.assertEqual(session.history(), expected)
        self.assertEqual({type(told[3]) for told in session.history()}, {tuple})

    def test_returned_lists_may_be_changed(self):
        session = Session(BOOK)
        session.apply([("next_word",), ("create_branch", "b")]).clear()
        session.history().clear()
        session.branches().clear()
        self.assertEqual(session.history(), [("next_word",), ("create_branch", "b")])
        self.assertEqual(session.branches(), ["b", "main"])

    def test_sessions_do_not_share_anything(self):
        one, other = Session(BOOK), Session(BOOK)
        one.apply(KINDS)
        self.assertEqual(view_of(other), ([], ["main"], "main", BOOK, ((0, 0), ()), 0))


class BranchesTest(unittest.TestCase):
    def test_names(self):
        for name in ("", "abcdefghi", "A", "a1", "a b", "a-b", "main ", "\n", "a\n"):
            session = Session(BOOK)
            session.skip(2)
            before = view_of(session)
            with self.subTest(name=name):
                with self.assertRaises(BadBranch) as caught:
                    session.create_branch(name)
                self.assertEqual(vars(caught.exception), {"name": name})
                for method in (session.switch_branch, session.delete_branch, session.difference_from):
                    with self.assertRaises(NoBranch) as caught:
                        method(name)
                    self.assertEqual(vars(caught.exception), {"name": name})
                self.assertEqual(view_of(session), before)
        session = Session(BOOK)
        for name in ("a", "abcdefgh", "z"):
            session.create_branch(name)
            self.assertEqual(session.current_branch(), name)
        self.assertEqual(session.branches(), ["a", "abcdefgh", "main", "z"])

    def test_taken_names(self):
        session = Session(BOOK)
        session.create_branch("b")
        for name in ("main", "b"):
            with self.assertRaises(BadBranch) as caught:
                session.create_branch(name)
            self.assertEqual(vars(caught.exception), {"name": name})
        session.delete_branch("main")
        session.create_branch("main")
        self.assertEqual(session.branches(), ["b", "main"])

    def test_branches_go_their_own_ways(self):
        session = Session(BOOK)
        session.skip(4)
        session.create_branch("b")
        self.assertEqual((session.word_count(), session.current_state()), (4, ((1, 1), ((0, 0, 1),))))
        session.replace_verse(1, 1, ("x",))
        session.skip(2)
        self.assertEqual((session.word_count(), session.current_state()), (6, ((0, 0), ())))
        session.switch_branch("main")
        self.assertEqual((session.word_count(), session.current_state()), (4, ((1, 1), ((0, 0, 1),))))
        self.assertEqual(session.current_book(), BOOK)
        self.assertEqual(session.difference_from("b"), 1)
        self.assertIsNone(session.difference_from("main"))
        session.delete_branch("b")
        with self.assertRaises(NoBranch):
            session.difference_from("b")

    def test_current_branch_is_not_deleted(self):
        session = Session(BOOK)
        with self.assertRaises(BadBranch) as caught:
            session.delete_branch("main")
        self.assertEqual(vars(caught.exception), {"name": "main"})
        session.create_branch("b")
        session.delete_branch("main")
        self.assertEqual(session.branches(), ["b"])
        self.assertRaises(BadBranch, session.delete_branch, "b")
        self.assertRaises(NoBranch, session.switch_branch, "main")

    def test_switching_to_the_current_branch_is_recorded(self):
        session = Session(BOOK)
        session.next_word()
        session.switch_branch("main")
        self.assertEqual(session.history(), [("next_word",), ("switch_branch", "main")])
        session.undo()
        self.assertEqual(session.word_count(), 1)
        session.undo()
        self.assertEqual(session.word_count(), 0)

    def test_difference_within_5000_words(self):
        # A song of 5 * 6 ** 4 words a, and one other word.
        book = ((1, 1, 1, 1, 1, "b"),), ((2,) * 6,), ((3,) * 6,), ((4,) * 6,), (("a",) * 6,)
        for before, expected in ((0, None), (1480, None), (1481, 5000), (6479, 2), (6480, 1), (6481, None)):
            session = Session(book)
            session.create_branch("c")
            session.replace_verse(0, 0, (1, 1, 1, 1, 1, "c"))
            session.skip(before)
            self.assertEqual(session.word_count(), before)
            session.switch_branch("main")
            session.skip(before)
            with self.subTest(before=before):
                self.assertEqual(session.difference_from("c"), expected)
                session.switch_branch("c")
                self.assertEqual(session.difference_from("main"), expected)
                self.assertEqual(session.word_count(), before)

class UndoTest(unittest.TestCase):
    def test_every_kind(self):
        for operation in KINDS:
            with self.subTest(operation=operation):
                session = Session(BOOK)
                session.next_word()
                session.stop_song()
                before = view_of(session)
                perform(session, operation)
                self.assertIs(session.undo(), True)
                self.assertEqual(view_of(session)[1:], before[1:])
                self.assertEqual(session.history(), before[0] + [operation, ("undo",)])

    def test_branches(self):
        session = Session(BOOK)
        session.skip(3)
        session.create_branch("b")
        session.skip(2)
        session.switch_branch("main")
        session.delete_branch("b")
        self.assertEqual(session.branches(), ["main"])
        session.undo()
        self.assertEqual((session.branches(), session.current_branch()), (["b", "main"], "main"))
        session.undo()
        self.assertEqual((session.current_branch(), session.word_count()), ("b", 5))
        session.undo()
        self.assertEqual((session.current_branch(), session.word_count()), ("b", 3))
        session.undo()
        self.assertEqual((session.branches(), session.current_branch(), session.word_count()), (["main"], "main", 3))

    def test_undo_reverts_what_is_not_reverted_yet(self):
        session = Session(BOOK)
        session.skip(1)
        session.skip(2)
        self.assertIs(session.undo(), True)
        self.assertIs(session.undo(), True)
        self.assertEqual(session.word_count(), 0)
        self.assertIs(session.undo(), False)
        self.assertIs(session.undo(), False)
        self.assertEqual(session.history(), [("skip", 1), ("skip", 2), ("undo",), ("undo",)])
        session.skip(3)
        session.undo()
        self.assertIs(session.undo(), False)
        self.assertEqual(session.history()[4:], [("skip", 3), ("undo",)])

    def test_operations_that_changed_nothing_are_undone_too(self):
        session = Session(BOOK)
        session.skip(4)
        session.skip(0)
        session.set_turn(1, 1)
        session.undo()
        session.undo()
        self.assertEqual(session.word_count(), 4)
        session.undo()
        self.assertEqual(session.word_count(), 0)

    def test_errors_are_not_undone(self):
        session = Session(BOOK)
        session.next_word()
        self.assertRaises(BadCount, session.skip, -1)
        self.assertRaises(NoBranch, session.switch_branch, "b")
        self.assertEqual(session.history(), [("next_word",)])
        session.undo()
        self.assertEqual(session.word_count(), 0)

    def test_many_operations(self):
        session = Session(thicket())
        states = [session.current_state()]
        for number in range(1500):
            if number % 30:
                session.next_word()
            else:
                session.skip(MOST - number)
            states.append(session.current_state())
        while session.undo():
            states.pop()
            self.assertEqual(session.current_state(), states[-1])
        self.assertEqual(len(states), 1)
        self.assertEqual(len(session.history()), 3000)

    def test_many_branches(self):
        session = Session(SONG)
        letters = "abcdefghijklmnopqrst"
        names = [one + other for one in letters for other in letters]
        for name in names:
            session.create_branch(name)
            session.next_word()
        self.assertEqual(session.branches(), sorted(names + ["main"]))
        self.assertEqual(session.word_count(), 400)
        session.switch_branch("aa")
        self.assertEqual(session.word_count(), 1)
        for _ in range(801):
            session.undo()
        self.assertEqual((session.branches(), session.word_count()), (["main"], 0))
        self.assertIs(session.undo(), False)


class ApplyTest(unittest.TestCase):
    def test_results(self):
        session = Session(BOOK)
        operations = [("undo",), ("next_word",), ("skip", 0), ("undo",), ("skip", 3), ("create_branch", "b"), ("undo",)]
        self.assertEqual(session.apply(operations), [False, "la", None, True, "la", None, True])
        # An undo that reverts nothing is not recorded.
        self.assertEqual(session.history(), operations[1:])
        self.assertEqual(session.word_count(), 4)
        session.undo()
        self.assertEqual(session.word_count(), 1)

    def test_nothing(self):
        session = Session(BOOK)
        session.next_word()
        self.assertEqual(session.apply([]), [])
        self.assertEqual(session.apply(()), [])
        self.assertEqual(session.history(), [("next_word",)])

    def test_kinds_of_values(self):
        session = Session(BOOK)
        results = session.apply((("replace_verse", 1, 0, ["x"]), ("replace_verse", 1, 1, ("y",)), ("skip", 5)))
        self.assertIs(type(results), list)
        self.assertEqual(results, [None, None, "y"])
        self.assertEqual(session.history()[0], ("replace_verse", 1, 0, ("x",)))

    def test_malformed(self):
        for wrong in MALFORMED:
            for index in (0, 2):
                session = Session(BOOK)
                session.next_word()
                before = view_of(session)
                operations = [("skip", -1), ("switch_branch", "none"), ("skip", 2)]
                operations.insert(index, wrong)
                operations.append(("fly",))
                with self.subTest(wrong=wrong, index=index):
                    with self.assertRaises(BadOperation) as caught:
                        session.apply(operations)
                    self.assertEqual(vars(caught.exception), {"index": index})
                    self.assertEqual(view_of(session), before)

    def test_error_in_the_middle(self):
        for wrong, error in (
            (("skip", -1), BadCount), (("set_turn", 0, 9), BadCount), (("set_turn", 9, 0), BadRefrain),
            (("replace_verse", 1, 0, (0,)), BadBook), (("create_branch", "c"), BadBranch),
            (("switch_branch", "nobody"), NoBranch), (("delete_branch", "c"), BadBranch),
        ):
            session = Session(BOOK)
            session.apply([("skip", 3), ("create_branch", "b"), ("next_word",)])
            before = view_of(session)
            operations = [
                ("undo",), ("undo",), ("undo",), ("undo",), ("replace_verse", 1, 0, ("x",)), ("create_branch", "c"),
                ("skip", 2), wrong, ("skip", -1),
            ]
            with self.subTest(wrong=wrong):
                self.assertRaises(error, session.apply, operations)
                self.assertEqual(view_of(session), before)
                # What can be undone is as before, too.
                session.undo()
                self.assertEqual((session.word_count(), session.current_branch()), (3, "b"))
                session.undo()
                session.undo()
                self.assertIs(session.undo(), False)
                self.assertEqual(session.word_count(), 0)

    def test_errors_keep_their_attributes(self):
        session = Session(BOOK)
        with self.assertRaises(NoBranch) as caught:
            session.apply([("next_word",), ("delete_branch", "nobody")])
        self.assertEqual(vars(caught.exception), {"name": "nobody"})
        with self.assertRaises(BadBook) as caught:
            session.apply([("next_word",), ("stop_song",), ("replace_verse", 0, 1, ())])
        self.assertEqual(vars(caught.exception), {"refrain": 0, "verse": 1})

    def test_arguments_stay_as_they_are(self):
        operations = [("replace_verse", 1, 0, ["x"]), ("next_word",)]
        Session(BOOK).apply(operations)
        replay(BOOK, operations)
        self.assertEqual(operations, [("replace_verse", 1, 0, ["x"]), ("next_word",)])


class ReplayTest(unittest.TestCase):
    def test_history_can_be_replayed(self):
        session = Session(NESTED)
        session.apply([
            ("skip", MOST), ("create_branch", "b"), ("stop_song",), ("set_turn", 3, 1), ("undo",),
            ("replace_verse", 1, 1, ["x", 3]), ("skip", 77), ("undo",), ("undo",), ("next_word",),
        ])
        again = replay(NESTED, session.history())
        self.assertIsInstance(again, Session)
        self.assertEqual(view_of(again), view_of(session))
        while session.undo():
            self.assertIs(again.undo(), True)
            self.assertEqual(view_of(again), view_of(session))
        self.assertIs(again.undo(), False)

    def test_order_of_errors(self):
        with self.assertRaises(BadBook) as caught:
            replay(BAD_BOOK, [("fly",)])
        self.assertEqual(vars(caught.exception), {"refrain": 0, "verse": 0})
        # The first operation that is wrong in any way counts, not the first malformed one.
        for operations, index in (
            ([("skip", -1), ("fly",)], 0), ([("fly",), ("skip", -1)], 0), ([("next_word",), ("skip", -1), ()], 1),
            ([("undo",), ("next_word",), ("next_word", 1), ("skip", -1)], 2),
            ([("replace_verse", 1, 0, (1,))], 0), ([("create_branch", "b"), ("create_branch", "b")], 1),
            ([("create_branch", "b"), ("delete_branch", "main"), ("switch_branch", "main")], 2),
        ):
            with self.subTest(operations=operations), self.assertRaises(BadOperation) as caught:
                replay(BOOK, operations)
            self.assertEqual(vars(caught.exception), {"index": index})

    def test_malformed(self):
        for wrong in MALFORMED:
            with self.subTest(wrong=wrong), self.assertRaises(BadOperation) as caught:
                replay(BOOK, (("next_word",), wrong))
            self.assertEqual(vars(caught.exception), {"index": 1})

    def test_nothing(self):
        self.assertEqual(view_of(replay(BOOK, [])), view_of(Session(BOOK)))
        self.assertEqual(view_of(replay(BOOK, (("undo",),))), view_of(Session(BOOK)))


if __name__ == "__main__":
    unittest.main()
