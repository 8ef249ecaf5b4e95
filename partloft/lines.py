"""Lines of sheets: the form of a sheet, and the numbers in its lines."""

from partloft.errors import InvalidSheet, LoftError

DIGITS = "0123456789"
# Longer numbers stand in no sheet.
MOST_DIGITS = 4


class SheetReader:
    """Takes one line after the other and tells of each whether it can stand next in a sheet.

    So it refuses the first line with which no sheet begins. The form of a sheet
    is a tuple of (word, True or False) in order: the first words of its lines,
    and whether there may be any number of lines with this word, or is just one.
    A reader for a sort of sheets has an own method take for lines with more words.
    """

    def __init__(self, form):
        self._form = form
        # The index in the form from which on the next line is looked for.
        self._at = 0

    def read(self, text):
        """Takes all lines of a text; raises InvalidSheet."""
        lines = text.split("\n")
        for at in range(len(lines)):
            if not self._is_next(lines[at]):
                raise InvalidSheet(at + 1)
        if self._at < len(self._form):
            raise InvalidSheet(len(lines) + 1)

    def take(self, word, line):
        """True if a line that begins with a word, which can stand next, has nothing else."""
        return line == word

    def _is_next(self, line):
        word = line.split(" ")[0]
        place = self._place_of(word)
        if place is None:
            return False
        self._at = place if self._form[place][1] else place + 1
        try:
            return self.take(word, line)
        except LoftError:
            return False

    def _place_of(self, word):
        """The index of a word in the form if it can begin the next line, otherwise None."""
        for place in range(self._at, len(self._form)):
            if self._form[place][0] == word:
                return place
            if not self._form[place][1]:
                return None
        return None


def numbers_in(words, many):
    """The list of the integers that so many words are, or None if they are not, or more or fewer."""
    numbers = [number_of(word) for word in words]
    return None if len(numbers) != many or None in numbers else numbers


def number_of(word):
    """The integer that a word is, as sheets write it, or None."""
    digits = word[1:] if word.startswith("-") else word
    if digits == "" or len(digits) > MOST_DIGITS or not all([digit in DIGITS for digit in digits]):
        return None
    number = int(word)
    return number if str(number) == word else None
