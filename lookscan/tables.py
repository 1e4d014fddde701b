"""Tables: what each class sees at some looks."""

from lookscan.arithmetic import added, negated
from lookscan.errors import InvalidLooks, InvalidWords, Unlike
from lookscan.looks import MAX_LOOKS, checked_looks, is_look, words_by
from lookscan.places import check_multiples, check_place, class_at, class_count, place_at


def is_word(value, length):
    """Tell whether a value is a word for so many looks."""
    if not isinstance(value, str) or len(value) != length:
        return False
    return all([letter in ("f", "u") for letter in value])


def check_words(words, classes, length):
    """Raise InvalidWords for a list that does not have a word for each class."""
    for index, word in enumerate(words[:classes]):
        if not is_word(word, length):
            raise InvalidWords(index)
    if len(words) != classes:
        raise InvalidWords(min(len(words), classes))


class Table:
    """What a place of each class sees at each look, `f` or `u`."""

    def __init__(self, divisors, looks, words):
        classes = class_count(divisors)
        self.own_looks = checked_looks(looks, len(divisors))
        check_words(words, classes, len(looks))
        self.own_divisors = divisors
        self.own_words = tuple(words)

    @classmethod
    def of(cls, scan, looks):
        """Return the table of a scan."""
        checked = checked_looks(looks, scan.directions)
        return cls(scan.divisors, checked, words_by(scan, scan.divisors, checked))

    @property
    def divisors(self):
        return self.own_divisors

    def looks(self):
        """Return the list of the looks."""
        return list(self.own_looks)

    def words(self):
        """Return the list of the words, in the order of the classes."""
        return list(self.own_words)

    def __eq__(self, other):
        if not isinstance(other, Table) or self.own_divisors != other.own_divisors:
            return False
        return self.own_looks == other.own_looks and self.own_words == other.own_words

    def __len__(self):
        return len(self.own_words)

    def __repr__(self):
        return f"Table({len(self.own_words)} classes, {len(self.own_looks)} looks)"

    def sees(self, place, look):
        """Return whether a place sees its neighbour at a look as filled."""
        check_place(place, len(self.own_divisors))
        if not is_look(look, len(self.own_divisors)) or look not in self.own_looks:
            raise InvalidLooks(0)
        word = self.own_words[class_at(self.own_divisors, place)]
        return word[self.own_looks.index(look)] == "f"

    def refined(self, divisors):
        """Return the table for multiples of the divisors that says the same about each place."""
        check_multiples(divisors, self.own_divisors)
        words = []
        for number in range(class_count(divisors)):
            words.append(self.own_words[class_at(self.own_divisors, place_at(divisors, number))])
        return Table(divisors, self.own_looks, words)

    def joined(self, other):
        """Return the table with the looks of both tables."""
        if self.own_divisors != other.own_divisors:
            raise Unlike()
        for index, look in enumerate(other.own_looks):
            if look in self.own_looks or len(self.own_looks) + index >= MAX_LOOKS:
                raise InvalidLooks(index)
        words = [one + two for one, two in zip(self.own_words, other.own_words)]
        return Table(self.own_divisors, self.own_looks + other.own_looks, words)

    def clashes(self):
        """Return the pairs (rests, look) at which two places both see one another as filled, or both as unfilled."""
        found = []
        for number in range(len(self.own_words)):
            rests = place_at(self.own_divisors, number)
            for look in self.own_looks:
                back = negated(look)
                if back in self.own_looks and self.sees(rests, look) == self.sees(added(rests, look), back):
                    found.append((rests, look))
        return found
