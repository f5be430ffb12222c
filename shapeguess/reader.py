"""Programs from their texts (S1.7)."""

from shapeguess.parsing import Parser
from shapeguess.trees import Program


def read_program(signature, text):
    """Return the program with this text. Raises BadText, then the errors of Program for names."""
    return Program(signature, Parser(text).functions())
