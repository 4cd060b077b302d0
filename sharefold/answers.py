"""Answers as they are told, part by part."""


class Answers:
    """An answer, each part of it told at a number: first the whole, then parts as they come."""

    def __init__(self):
        self.many = 1
        self.rows = {}

    def tell(self, number, value):
        """Tell what is at a number by a value, or what failed; return the numbers of its parts."""
        if value[0] != "make":
            self.rows[number] = (value[:1], None)
            return []
        numbers = list(range(self.many, self.many + len(value[2])))
        self.many += len(numbers)
        self.rows[number] = (value[:2], numbers)
        return numbers

    def whole(self):
        """The answer, with what is not told yet."""
        answers = {}
        # Parts have greater numbers than what they are in.
        for number in range(self.many - 1, -1, -1):
            told, numbers = self.rows.get(number, (("later",), None))
            if numbers is not None:
                told = (*told, tuple([answers[own] for own in numbers]))
            answers[number] = told
        return answers[0]
