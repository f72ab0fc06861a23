"""What several tests need."""

from surelyread.errors import Fault, TooLarge


def fault_of(call, text):
    """(line, column, reason) of the fault that the call raises for the text, or None."""
    try:
        call(text)
    except Fault as fault:
        return (fault.line, fault.column, fault.reason)
    return None


def too_large_of(call, text):
    """The reason for which the call refuses the text as too large, or None."""
    try:
        call(text)
    except TooLarge as error:
        return error.reason
    return None


def marked(text):
    """A text without its mark @, and the line and the column of the mark."""
    ahead, _, behind = text.partition("@")
    lines = ahead.split("\n")
    return ahead + behind, len(lines), len(lines[-1]) + 1


def check_fault(case, call, text, reason):
    """Checks that the text has a fault at its mark @, for the reason."""
    plain, line, column = marked(text)
    with case.subTest(text=text):
        case.assertEqual(fault_of(call, plain), (line, column, reason))
