"""The classes of muffline.errors."""

import unittest

from muffline import errors

PLAIN = ("BadWorld", "BadClaim", "TooLarge", "BadRows", "BadEdit", "BadJoin", "UnknownName", "BadTunnel")
WITH_AT = ("BadText", "BadMove")
ALL = PLAIN + WITH_AT + ("BadRole", "BadLine")


class ErrorClasses(unittest.TestCase):
    def test_base(self):
        self.assertEqual(errors.MuffError.__bases__, (ValueError,))

    def test_direct_subclasses(self):
        for name in ALL:
            with self.subTest(name):
                self.assertEqual(getattr(errors, name).__bases__, (errors.MuffError,))

    def test_classes_are_distinct(self):
        self.assertEqual(len({getattr(errors, name) for name in ALL}), 12)

    def test_defined_here(self):
        for name in ALL + ("MuffError",):
            self.assertEqual(getattr(errors, name).__module__, "muffline.errors")
            self.assertEqual(getattr(errors, name).__name__, name)


class Attributes(unittest.TestCase):
    def test_plain_ones_take_no_arguments(self):
        for name in PLAIN:
            with self.subTest(name):
                with self.assertRaises(errors.MuffError) as caught:
                    raise getattr(errors, name)()
                self.assertIs(caught.exception.__class__, getattr(errors, name))

    def test_at(self):
        for name in WITH_AT:
            for at in (0, 1, 77):
                with self.subTest(name, at=at):
                    with self.assertRaises(ValueError) as caught:
                        raise getattr(errors, name)(at)
                    self.assertEqual(caught.exception.at, at)

    def test_at_is_needed(self):
        for name in WITH_AT + ("BadRole", "BadLine"):
            with self.assertRaises(TypeError):
                getattr(errors, name)()

    def test_line(self):
        for line in (1, 12):
            with self.assertRaises(errors.MuffError) as caught:
                raise errors.BadLine(line)
            self.assertEqual(caught.exception.line, line)

    def test_role_has_a_default(self):
        for step in (-1, 0, 5):
            wrong = errors.BadRole(step)
            self.assertEqual((wrong.step, wrong.role), (step, -1))

    def test_step_comes_before_role(self):
        wrong = errors.BadRole(4, 2)
        self.assertEqual((wrong.step, wrong.role), (4, 2))
        wrong = errors.BadRole(-1, role=0)
        self.assertEqual((wrong.step, wrong.role), (-1, 0))


if __name__ == "__main__":
    unittest.main()
