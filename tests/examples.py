"""Runs examples in the form of the document's interface.

An example is lines that begin with >>>, and after them the value of the last
one, or `raises` and an error with its attributes. Examples are separated by
blank lines.
"""

import sungbyturns.errors


def check_examples(case, text):
    """Check all examples of a text in a unittest.TestCase."""
    for example in text.strip().split("\n\n"):
        with case.subTest(example=example):
            check_example(case, example)


def check_example(case, example):
    rows = example.strip().splitlines()
    code = [row[4:] for row in rows if row.startswith(">>> ")]
    expected = "\n".join(row for row in rows if not row.startswith(">>> "))
    names = {}
    for row in code[:-1]:
        exec(row, names)
    if expected.startswith("raises "):
        check_error(case, code[-1], names, expected[len("raises "):])
    else:
        case.assertEqual(repr(eval(code[-1], names)), expected)


def check_error(case, row, names, expected):
    name, _, attributes = expected.partition("(")
    with case.assertRaises(getattr(sungbyturns.errors, name)) as caught:
        eval(row, names)
    told = eval("dict(" + attributes) if attributes else {}
    case.assertEqual(vars(caught.exception), told)
