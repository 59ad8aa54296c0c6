"""Tries the program against the model."""

from tests.asking import each
from tests.model import model_answers


def agree(test, setup, calls):
    """Calls that change nothing, however many, all behind the same setup."""
    expected = model_answers(list(setup) + calls)[len(setup):]
    for call, found, one in zip(calls, each(list(setup), calls), expected, strict=True):
        test.assertEqual(found, one, (setup, call))
