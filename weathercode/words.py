"""A text's bytes taken apart into words, and the words walked one by one."""

SIGNS = " +-/0123456789=ABCDEFGHIJKLMNOPQRSTUVWXYZ"


class NotReport(ValueError):
    pass


def text_of(t):
    signs = dict([(ord(sign), sign) for sign in SIGNS])
    if not all([byte in signs for byte in t]):
        raise NotReport("a byte that no report has")
    return "".join([signs[byte] for byte in t])


def words_of(t):
    text = text_of(t)
    if not text.endswith("="):
        raise NotReport("no = at the end")
    # A blank too many makes an empty word, which no reader takes.
    return text[:-1].split(" ")


def demanded(found):
    if found is None:
        raise NotReport("a word that must be there is not")
    return found


# The number that so many digits tell, or None if they tell none from lowest to highest.
def number_within(part, size, lowest, highest):
    if len(part) != size or not part.isdigit():
        return None
    number = int(part)
    return number if lowest <= number <= highest else None


# Words of different sorts never look alike: so a faulty word that an optional
# reader leaves is refused by the next required one, or as a word too many.
class Cursor:
    def __init__(self, words):
        self.words = words
        self.place = 0

    def at_end(self):
        return self.place >= len(self.words)

    def word(self):
        return "" if self.at_end() else self.words[self.place]

    def advance(self):
        self.place += 1

    def optional(self, reader):
        found = reader(self.word())
        if found is not None:
            self.advance()
        return found

    def required(self, reader):
        return demanded(self.optional(reader))
