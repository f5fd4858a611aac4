"""Texts of patterns: written, and read back."""

from loggather.errors import NoText
from loggather.patterns import is_hole, is_part, is_pattern


def show_part(part):
    text = part[1]
    if is_hole(part):
        return f"<{text}>"
    return f"={text}" if text[0] in ("<", "=") else text


def show_pattern(pattern):
    """The text that is written of a pattern."""
    return " ".join([show_part(part) for part in pattern])


def read_part(text):
    part = ("hole", text[1:-1]) if text.startswith("<") else ("word", text.removeprefix("="))
    # Written once more, so that nothing is read that isn't written of a part, as a = ahead that is not called for.
    if not is_part(part) or show_part(part) != text:
        raise NoText("this is not written of any part")
    return part


def read_pattern(text):
    """The pattern of which a text is written, or NoText."""
    pattern = [read_part(piece) for piece in text.split(" ")]
    if not is_pattern(pattern):
        raise NoText("no pattern has as many parts")
    return pattern
