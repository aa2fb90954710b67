"""Names, signs and letters."""

from fewbreak.errors import BadLetters, BadNumber, BadText, TooMany, UnknownPart

LOWERCASE = "abcdefghijklmnopqrstuvwxyz"
SIGNS = "0123456789abcdefghijklmnopqrstuvwxyz"
MOST_IN_NAME = 6
MOST_PARTS = 4
MOST_SIGNS = 16
MOST_LETTERS = 16


def is_name(text):
    """Whether a string is a name."""
    return 1 <= len(text) <= MOST_IN_NAME and all([one in LOWERCASE for one in text])


def _are_signs(signs):
    """Whether a string has 1 to 16 different signs."""
    if not 1 <= len(signs) <= MOST_SIGNS or len(set(signs)) != len(signs):
        return False
    return all([one in SIGNS for one in signs])


def _check_parts(parts):
    """Raises what the constructor of letters raises for its parts, up to the number of letters."""
    if len(parts) > MOST_PARTS:
        raise TooMany("parts", len(parts))
    if not parts:
        raise BadLetters(-1)
    ahead = []
    for at, (name, signs) in enumerate(parts):
        if not is_name(name) or name in ahead or not _are_signs(signs):
            raise BadLetters(at)
        ahead.append(name)


def _check_many(parts):
    """Raises TooMany if parts have more letters than are allowed."""
    many = 1
    for _, signs in parts:
        many = many * len(signs)
    if many > MOST_LETTERS:
        raise TooMany("letters", many)


def _letters_of(signs_in_order):
    """All letters in their order."""
    found = [""]
    for signs in signs_in_order:
        found = [letter + sign for letter in found for sign in signs]
    return found


class Letters:
    """Parts with names and signs, and the letters that they make. They never change."""

    def __init__(self, *parts):
        _check_parts(parts)
        _check_many(parts)
        self.names = tuple([name for name, _ in parts])
        self.signs = tuple([signs for _, signs in parts])
        self._all = tuple(_letters_of(self.signs))
        self._places = {letter: place for place, letter in enumerate(self._all)}

    def listed(self):
        """The list of the letters in order."""
        return list(self._all)

    def is_letter(self, text):
        """Whether a string is a letter."""
        return text in self._places

    def place(self, letter):
        """The index of a letter in the order."""
        if letter not in self._places:
            raise BadNumber(letter)
        return self._places[letter]

    def signs_of(self, name):
        """The string of signs of a part."""
        if name not in self.names:
            raise UnknownPart(name)
        return self.signs[self.names.index(name)]

    def seen(self, letter, names):
        """The signs that a letter has at the parts with some names, in the order of the names."""
        if letter not in self._places:
            raise BadNumber(letter)
        for name in names:
            if name not in self.names:
                raise UnknownPart(name)
        return "".join([letter[self.names.index(name)] for name in names])

    def __str__(self):
        return " ".join([f"{name}:{signs}" for name, signs in zip(self.names, self.signs)])

    def __repr__(self):
        return f"Letters({str(self)})"

    def __eq__(self, other):
        return isinstance(other, Letters) and self.names == other.names and self.signs == other.signs

    def __len__(self):
        return len(self._all)

    def __contains__(self, text):
        return text in self._places


def read_letters(text):
    """The letters with a text."""
    words = text.split(" ")
    for word in words:
        if word.count(":") != 1:
            raise BadText(0, "form")
    parts = [tuple(word.split(":")) for word in words]
    return Letters(*parts)
