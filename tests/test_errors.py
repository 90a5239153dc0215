"""The errors, and 0.2 and 0.3 as they hold of them."""

import unittest

from ridgewatch import errors

TELLING = [("BadText", "place"), ("BadRidge", "word"), ("BadPaper", "word")]
SILENT = ["BadDeed", "NotSeen", "TooLow", "TooMany", "NothingDone"]


class Kinds(unittest.TestCase):
    def test_ridge_error_is_a_value_error(self):
        self.assertEqual(errors.RidgeError.__bases__, (ValueError,))

    def test_all_others_stand_directly_beneath_it(self):
        for name in [name for name, _ in TELLING] + SILENT:
            self.assertEqual(getattr(errors, name).__bases__, (errors.RidgeError,), name)

    def test_silent_ones_are_raised_without_anything(self):
        for name in SILENT:
            with self.assertRaises(errors.RidgeError):
                raise getattr(errors, name)()


class Told(unittest.TestCase):
    def test_what_is_told_stands_as_attribute(self):
        values = [None, True, False, 0, -7, "word", "", (), [], {}, (1, 2), [1, [2]], {"a": {"b": [1]}, (1, 2): (3,)}]
        for name, attribute in TELLING:
            for value in values:
                error = getattr(errors, name)(value)
                self.assertEqual(repr(getattr(error, attribute)), repr(value), name)

    def test_it_is_caught_as_value_error(self):
        try:
            raise errors.BadText(10)
        except ValueError as error:
            self.assertEqual(error.place, 10)

    def test_lists_and_dicts_are_copies(self):
        for name, attribute in TELLING:
            inner, deep = [1], {"k": [2]}
            value = [inner, (inner, (deep, ())), {"a": inner, "b": (deep,)}]
            error = getattr(errors, name)(value)
            before = repr(value)
            inner.append(9)
            deep["k"].append(8)
            deep["new"] = 1
            value[2]["c"] = 1
            value.append(None)
            self.assertEqual(repr(getattr(error, attribute)), before)

    def test_a_changed_attribute_leaves_the_argument(self):
        value = ([1], {"a": [2]})
        error = errors.BadRidge(value)
        error.word[0].append(5)
        error.word[1]["a"].clear()
        self.assertEqual(value, ([1], {"a": [2]}))

    def test_however_deep(self):
        bottom = [0]
        value = bottom
        for k in range(5000):
            value = [value] if k % 3 == 0 else (value, k) if k % 3 == 1 else {"in": value}
        kept = errors.BadPaper(value).word
        bottom.append(1)
        for k in reversed(range(5000)):
            self.assertIs(type(kept), [list, tuple, dict][k % 3])
            kept = kept["in"] if k % 3 == 2 else kept[0]
        self.assertEqual(kept, [0])

    def test_parts_keep_their_kind_and_order(self):
        value = {1: True, "b": 1, (2, (3,)): False, None: [0, False]}
        kept = errors.BadText(value).place
        self.assertEqual(repr(kept), repr(value))
        self.assertIsNot(kept, value)


if __name__ == "__main__":
    unittest.main()
