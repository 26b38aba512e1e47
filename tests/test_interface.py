"""Names and arguments of the functions, each in the file that the interface names."""

import importlib
import inspect
import unittest

FUNCTIONS = {
    "books": {"reachable_refrains": ["book"]},
    "states": {
        "initial_state": ["book"],
        "next_words": ["book", "state", "count"],
    },
    "positions": {
        "word_at": ["book", "state", "number"],
        "advance": ["book", "state", "count"],
        "count_words": ["book", "state", "count"],
        "find_word": ["book", "state", "word", "number"],
        "find_start": ["book", "state", "refrain", "number"],
    },
    "rewinding": {"rewind": ["book", "state", "count"]},
    "periods": {
        "advance_songs": ["book", "turns", "songs"],
        "period": ["book"],
        "average_length": ["book"],
        "frequencies": ["book"],
    },
    "certificates": {
        "make_certificate": ["book", "word"],
        "check_certificate": ["book", "word", "certificate"],
        "count_by_certificate": ["book", "word", "certificate", "turns", "final_turns", "songs"],
        "max_deviation": ["book", "word"],
    },
    "simplifying": {
        "simplify": ["book", "turns"],
        "first_difference": ["book", "state", "other_book", "other_state", "count"],
    },
    "inference": {"infer_turns": ["book", "words"]},
    "editing": {
        "set_turn": ["book", "state", "refrain", "verse"],
        "stop_song": ["book", "state"],
        "replace_verse": ["book", "refrain", "verse", "items"],
    },
    "session": {"replay": ["book", "operations"]},
    "compiler": {"compile_source": ["source"]},
    "printer": {"to_source": ["book"]},
    "plain_text": {
        "format_book": ["book"],
        "parse_book": ["text"],
        "format_state": ["state"],
        "parse_state": ["text"],
    },
    "binary": {
        "pack_bytes": ["values"],
        "unpack_bytes": ["data"],
        "encode_book": ["book"],
        "decode_book": ["data"],
        "encode_state": ["book", "state"],
        "decode_state": ["book", "data"],
    },
    "journal": {
        "encode_operation": ["operation"],
        "encode_journal": ["book", "operations"],
        "record_ends": ["data"],
        "recover": ["data"],
    },
}

SESSION = {
    "__init__": ["self", "book"],
    "next_word": ["self"],
    "skip": ["self", "count"],
    "set_turn": ["self", "refrain", "verse"],
    "stop_song": ["self"],
    "replace_verse": ["self", "refrain", "verse", "items"],
    "create_branch": ["self", "name"],
    "switch_branch": ["self", "name"],
    "delete_branch": ["self", "name"],
    "undo": ["self"],
    "apply": ["self", "operations"],
    "history": ["self"],
    "branches": ["self"],
    "current_branch": ["self"],
    "current_book": ["self"],
    "current_state": ["self"],
    "word_count": ["self"],
    "difference_from": ["self", "name"],
}


class InterfaceTest(unittest.TestCase):
    def test_functions(self):
        for file, functions in FUNCTIONS.items():
            module = importlib.import_module("sungbyturns." + file)
            for name, parameters in functions.items():
                with self.subTest(file=file, name=name):
                    function = getattr(module, name)
                    self.assertEqual(function.__module__, module.__name__)
                    self.assertEqual(list(inspect.signature(function).parameters), parameters)

    def test_session(self):
        module = importlib.import_module("sungbyturns.session")
        self.assertEqual(module.Session.__module__, module.__name__)
        for name, parameters in SESSION.items():
            with self.subTest(name=name):
                # In the class itself, not in one above it.
                method = vars(module.Session)[name]
                self.assertEqual(list(inspect.signature(method).parameters), parameters)


if __name__ == "__main__":
    unittest.main()
