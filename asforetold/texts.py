"""What the readers of texts share: how numbers are written, and where in a text a fault is."""

from asforetold.errors import TextFault

# How many digits a number of a path or an instant has at most where a text is read.
DIGITS_MOST = 7


def writes_number(text):
    """Whether a text is a number in decimal digits without unnecessary zeros."""
    return text.isdigit() and (text == "0" or not text.startswith("0"))


def raise_fault(text, at, words):
    """Raise TextFault with these words at the character with the index at, or behind the last one."""
    before = text[:at]
    # Without a newline before it rfind gives -1, so that columns count from 1 on the first line, too.
    raise TextFault(1 + before.count("\n"), at - before.rfind("\n"), words)
