"""Pasts: the texts that something had, one after the other."""


class Past:
    """A present text, the texts before it, and those after it to which one can go forward."""

    def __init__(self, text, limit):
        self._text = text
        self._limit = limit
        self._earlier = []
        # The next text stands last.
        self._later = []

    def present(self):
        """The present text."""
        return self._text

    def add(self, text):
        """Makes a new text the present one, and forgets those after the former one."""
        self._earlier.append(self._text)
        if len(self._earlier) > self._limit:
            self._earlier.pop(0)
        self._text = text
        self._later = []

    def back(self):
        """Goes to the text before the present one; True if there was one."""
        if not self._earlier:
            return False
        self._later.append(self._text)
        self._text = self._earlier.pop()
        return True

    def forward(self):
        """Goes to the text after the present one; True if there was one."""
        if not self._later:
            return False
        self._earlier.append(self._text)
        self._text = self._later.pop()
        return True

    def before(self):
        """How many texts are kept before the present one."""
        return len(self._earlier)

    def after(self):
        """How many texts are kept after the present one."""
        return len(self._later)
