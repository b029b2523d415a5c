"""Faults put into texts and into numbers."""

SIGNS = " +-/0123456789=ABCDEFGHIJKLMNOPQRSTUVWXYZ"
NEAR = (-32768, -61, -60, -2, -1, 0, 1, 2, 3, 4, 5, 8, 9, 19, 20, 50, 64, 65, 90, 91, 99, 100, 101, 300, 301, 360,
        370, 800, 850, 998, 999, 1000, 1100, 1439, 1440, 5000, 9999, 10000, 10001, 32767)


def with_a_fault(source, text):
    """The text with one sign or one word otherwise; now and then that is a report's, too."""
    place = source.randrange(len(text))
    words = text[:-1].split(" ")
    one, other = source.randrange(len(words)), source.randrange(len(words))
    near = [str((int(text[place]) + 1) % 10)] if text[place].isdigit() else ["M", "-"]
    swapped = list(words)
    swapped[one], swapped[other] = words[other], words[one]
    return source.choice([
        text[:place] + source.choice(SIGNS) + text[place + 1:],
        text[:place] + source.choice(near) + text[place + 1:],
        text[:place] + text[place + 1:],
        text[:place] + source.choice(SIGNS) + text[place:],
        " ".join(swapped) + "=",
        " ".join(words[:one] + words[one + 1:]) + "=",
        " ".join(words[:one] + [words[other]] + words[one:]) + "=",
        " ".join(words[:one] + [words[other]] + words[one + 1:]) + "=",
    ])


def with_a_fault_in_numbers(source, numbers):
    """The numbers with one of them otherwise; now and then they are a report's, too."""
    place, other = source.randrange(len(numbers)), source.randrange(len(numbers))
    before, number, behind = numbers[:place], numbers[place], numbers[place + 1:]
    return source.choice([
        before + [source.choice(NEAR)] + behind,
        before + [number + source.choice([-10, -1, 1, 10])] + behind,
        before + [numbers[other]] + behind,
        before + [-number] + behind,
        before + behind,
        before + [source.choice(NEAR), number] + behind,
        before + [number, number] + behind,
        before,
        numbers + [source.choice(NEAR)],
    ])
