"""Whole histories of a ring: its numbers, who is woken when, and which mail comes next."""

BIG = 10**30


def rising(many):
    return list(range(many))


def falling(many):
    return [BIG - 3 * place for place in range(many)]


def mixed(many):
    # 67 is a prime beyond the count of hands, so that no number comes twice.
    numbers = [(place + 1) * 29 % 67 - 1 for place in range(many)]
    return [number * BIG if number > 33 else number for number in numbers]


def ruler(many):
    # Hands of each stage as close together as they can be: 1 3 1 7 1 3 1 15 ..
    return [((place + 1) & -(place + 1)) * 100 + place for place in range(many)]


NUMBERS = {"rising": rising, "falling": falling, "mixed": mixed, "ruler": ruler}


def one(many):
    return [many // 2]


def several(many):
    return sorted({0, many // 3, many - 1})


def every(many):
    return list(range(many))


def every_from_the_last(many):
    return list(range(many - 1, -1, -1))


WOKEN = {
    "one": one,
    "several": several,
    "every": every,
    "every from the last": every_from_the_last,
}


class FirstInFirstOut:
    def choose(self, row, greatest):
        return 0


class LastInFirstOut:
    def choose(self, row, greatest):
        return len(row) - 1


class Mixed:
    """An order that looks like chance, and is the same each time."""

    def __init__(self):
        self.state = 12345

    def choose(self, row, greatest):
        self.state = (self.state * 1103515245 + 12345) % 2**31
        return (self.state >> 8) % len(row)


class GreatestLast:
    """Holds back the mails about the greatest for as long as there are others."""

    def choose(self, row, greatest):
        for place, mail in enumerate(row):
            if mail[3] != greatest:
                return place
        return len(row) - 1


class AnswersLast:
    """Holds back the answers, so that hands stay at their stages while others ask."""

    def choose(self, row, greatest):
        for place, mail in enumerate(row):
            if mail[2] != "answer":
                return place
        return 0


ORDERS = (FirstInFirstOut, LastInFirstOut, Mixed, GreatestLast, AnswersLast)
