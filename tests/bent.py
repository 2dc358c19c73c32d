"""Texts of several lines, bent in many ways, against a plain reading of them."""

from shapebetween.errors import InvalidText, Missing, ShapeError
from tests.plain import PlainCase


def bent_texts(draw, text, odd_lines, signs):
    """The text with a line left out, doubled or changed, or with a sign put in, left out or changed."""
    lines = text.splitlines(keepends=True)
    for at in range(len(lines)):
        yield "".join(lines[:at] + lines[at + 1:])
        yield "".join(lines[:at] + [lines[at]] + lines[at:])
        yield "".join(lines[:at] + [draw.choice(odd_lines)] + lines[at + 1:])
    for at in range(len(text) + 1):
        sign = draw.choice(signs)
        yield text[:at] + sign + text[at:]
        yield text[:at] + text[at + 1:]
        yield text[:at] + sign + text[at + 1:]


class TextCase(PlainCase):
    def check_reading(self, kind, plain_reading, text):
        """kind.read does what a plain reading tells: the index of the first wrong line, or the arguments of kind."""
        wanted = plain_reading(text)
        if isinstance(wanted, int):
            self.check_raises(InvalidText(wanted), kind.read, text)
            return "text"
        try:
            made = kind(*wanted)
        except (ShapeError, Missing) as error:
            self.check_raises(error, kind.read, text)
            return error.code
        self.assertEqual(kind.read(text), made)
        self.assertEqual(made.text(), text)
        return "read"

    def count_readings(self, kind, plain_reading, texts):
        """How often each outcome came: an error by its code, or read."""
        seen = {}
        for text in texts:
            code = self.check_reading(kind, plain_reading, text)
            seen[code] = seen.get(code, 0) + 1
        return seen
