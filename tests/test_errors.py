"""The section folio/errors.py of the interface."""

import unittest

from folio import errors

WITHOUT_ATTRIBUTES = (
    errors.BadFont,
    errors.BadStyle,
    errors.BadPlace,
    errors.TooManyBlocks,
    errors.NotLaidOut,
    errors.NoSuchLabel,
    errors.NoSuchPage,
    errors.NoSuchBlock,
)

WITH_ATTRIBUTES = (
    (errors.BadText, {"line": 2, "column": 7, "what": "unknown mark"}),
    (errors.BadEntry, {"at": 3}),
    (errors.BadDemand, {"at": 0}),
    (errors.BadExample, {"at": 1, "what": "duplicate"}),
    (errors.LabelFault, {"block": 4, "label": "end", "what": "missing"}),
    (errors.BadDrawing, {"line": 5}),
)


class ErrorsTest(unittest.TestCase):
    def test_base_classes(self):
        self.assertEqual(errors.FolioError.__bases__, (ValueError,))
        classes = WITHOUT_ATTRIBUTES + tuple(kind for kind, _ in WITH_ATTRIBUTES)
        for kind in classes:
            with self.subTest(kind=kind.__name__):
                self.assertEqual(kind.__bases__, (errors.FolioError,))

    def test_classes_are_defined_in_the_module(self):
        own = [
            name
            for name, value in vars(errors).items()
            if isinstance(value, type) and value.__module__ == "folio.errors"
        ]
        classes = (errors.FolioError,) + WITHOUT_ATTRIBUTES
        names = [kind.__name__ for kind in classes]
        names += [kind.__name__ for kind, _ in WITH_ATTRIBUTES]
        self.assertEqual(sorted(own), sorted(names))

    def test_attributes_are_set_by_position(self):
        for kind, attributes in WITH_ATTRIBUTES:
            with self.subTest(kind=kind.__name__):
                error = kind(*attributes.values())
                self.assertEqual(vars(error), attributes)

    def test_attributes_are_set_by_keyword(self):
        for kind, attributes in WITH_ATTRIBUTES:
            with self.subTest(kind=kind.__name__):
                error = kind(**attributes)
                self.assertEqual(vars(error), attributes)

    def test_attributes_belong_to_each_object(self):
        first = errors.BadEntry(1)
        second = errors.BadEntry(2)
        self.assertEqual((first.at, second.at), (1, 2))

    def test_all_are_caught_as_the_base_class(self):
        for kind in WITHOUT_ATTRIBUTES:
            with self.subTest(kind=kind.__name__):
                with self.assertRaises(errors.FolioError):
                    raise kind()
        for kind, attributes in WITH_ATTRIBUTES:
            with self.subTest(kind=kind.__name__):
                with self.assertRaises(errors.FolioError) as caught:
                    raise kind(**attributes)
                self.assertEqual(vars(caught.exception), attributes)

    def test_messages_tell_the_attributes(self):
        for kind, attributes in WITH_ATTRIBUTES:
            message = str(kind(**attributes))
            for value in attributes.values():
                with self.subTest(kind=kind.__name__, value=value):
                    self.assertIn(str(value), message)


if __name__ == "__main__":
    unittest.main()
