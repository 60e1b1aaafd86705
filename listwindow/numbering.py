"""Numbering: keys that come again and again are known by numbers, in the sequence in which they come first."""


class Numbers:
    def __init__(self):
        self._numbers = {}
        self._keys = []

    def number_of(self, key):
        if key not in self._numbers:
            self._numbers[key] = len(self._keys)
            self._keys.append(key)
        return self._numbers[key]

    def key_of(self, number):
        return self._keys[number]
