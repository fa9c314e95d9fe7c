"""Runs the examples of the document, as they stand there.

An example is a text of rows that begin with ``>>> `` and of a last row, which is
the value of the last expression, or ``raises`` and an error with its attributes.
"""

import re


def run(test, text):
    """Run an example, and let a test fail if it does not come out as it says."""
    rows = text.strip().split("\n")
    code = [row[len(">>> "):] for row in rows[:-1]]
    names = {}
    exec("\n".join(code[:-1]), names)
    expected = rows[-1]
    if not expected.startswith("raises "):
        test.assertEqual(repr(eval(code[-1], names)), expected)
        return
    name, attributes = re.fullmatch(r"raises (\w+)\((.*)\)", expected).groups()
    with test.assertRaises(ValueError) as caught:
        eval(code[-1], names)
    error = caught.exception
    shown = ", ".join(f"{key}={value!r}" for key, value in sorted(vars(error).items()))
    test.assertEqual((error.__class__.__name__, shown), (name, attributes))
