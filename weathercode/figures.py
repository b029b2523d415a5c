"""A report's numbers walked one by one, and told in digits."""


class NotNumbers(ValueError):
    pass


def insist(holds):
    if not holds:
        raise NotNumbers("not the numbers of a report")


def digits(number, size):
    return str(number).zfill(size)


class Figures:
    def __init__(self, numbers):
        self.numbers = numbers
        self.place = 0

    def at_end(self):
        return self.place >= len(self.numbers)

    def take(self, lowest, highest):
        insist(not self.at_end())
        number = self.numbers[self.place]
        insist(lowest <= number <= highest)
        self.place += 1
        return number

    # Steps over the next number if it is this one.
    def passes(self, number):
        if self.at_end() or self.numbers[self.place] != number:
            return False
        self.place += 1
        return True
