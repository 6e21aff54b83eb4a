import unittest

from unlikehands import errors

NAMES = {
    "NoList": (), "NoTuple": (), "BadCount": (), "BadStep": ("number",), "BadPerson": ("number",),
    "NoStep": ("name",), "NoPerson": ("name",), "BadPattern": (), "BadSharing": (), "BadFact": ("number",),
    "BadRule": ("number",), "NoRule": ("number",), "BadNumber": (), "NoSharing": ("number",), "Misfit": (),
    "Stuck": ("tree",), "TooMany": (), "NotReady": (), "NoUndo": (), "BadBefore": ("number",),
    "BadPast": ("number",), "NoMark": ("number",), "BadText": ("line",),
    "BadCost": ("number",), "NoCost": ("step", "name"), "BadGrant": ("number",), "BadWas": (),
}


class ErrorsTest(unittest.TestCase):
    def test_hand_error_is_a_value_error(self):
        self.assertEqual(errors.HandError.__bases__, (ValueError,))
        with self.assertRaises(ValueError):
            raise errors.HandError()

    def test_all_are_here_and_directly_below_hand_error(self):
        for name in NAMES:
            made = getattr(errors, name)
            self.assertEqual(made.__bases__, (errors.HandError,), name)
            self.assertEqual(made.__module__, "unlikehands.errors", name)

    def test_there_are_no_others(self):
        found = [name for name, thing in vars(errors).items() if isinstance(thing, type)]
        self.assertEqual(sorted(found), sorted([*NAMES, "HandError"]))

    def test_by_position(self):
        for name, words in NAMES.items():
            values = [["any", (word,)] for word in words]
            error = getattr(errors, name)(*values)
            self.assertEqual(len(vars(error)), len(words), name)
            for word, value in zip(words, values):
                self.assertIs(getattr(error, word), value, name)

    def test_by_name(self):
        for name, words in NAMES.items():
            values = {word: ["any", (word,)] for word in words}
            error = getattr(errors, name)(**values)
            for word in words:
                self.assertIs(getattr(error, word), values[word], name)

    def test_with_another_count_of_arguments(self):
        for name, words in NAMES.items():
            if words:
                with self.assertRaises(TypeError):
                    getattr(errors, name)(*range(len(words) + 1))
                with self.assertRaises(TypeError):
                    getattr(errors, name)(*range(len(words) - 1))

    def test_raised_and_caught(self):
        for name, words in NAMES.items():
            with self.assertRaises(errors.HandError) as caught:
                raise getattr(errors, name)(*words)
            self.assertEqual([getattr(caught.exception, word) for word in words], list(words))


if __name__ == "__main__":
    unittest.main()
