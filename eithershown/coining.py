"""New names: a letter and a number."""


class Coiner:
    """Tells names that are neither taken nor told yet, each time with the least number from 1 on."""

    def __init__(self, taken):
        self.taken = {name: True for name in taken}
        self.numbers = {}

    def coin(self, letter):
        number = self.numbers.get(letter, 1)
        while f"{letter}{number}" in self.taken:
            number += 1
        # Names are never given back, so no lesser number gets free again.
        self.numbers[letter] = number + 1
        return f"{letter}{number}"
