"""The examples of README.md run, and say what their comments say."""

import pathlib
import re
import unittest

TEXT = (pathlib.Path(__file__).resolve().parent.parent / "README.md").read_text(encoding="ascii")


class Readme(unittest.TestCase):
    def test_the_examples_run(self):
        blocks = re.findall(r"```python\n(.*?)```", TEXT, re.DOTALL)
        self.assertGreater(len(blocks), 3)
        names = {}
        for block in blocks:
            exec(compile(block, "README.md", "exec"), names)
        self.assertEqual(names["size"](names["term"]), 5)
        self.assertEqual(names["recipe"], ("unlock", ("letter", 0), ("letter", 2)))
        x, y, mark = names["x"], names["y"], names["mark"]
        self.assertEqual(names["unify"](("pair", x, ("digest", y)), ("pair", y, ("digest", mark))), ((x, mark), (y, mark)))

    def test_all_modules_are_listed(self):
        package = pathlib.Path(__file__).resolve().parent.parent / "muffline"
        for path in package.glob("*.py"):
            if path.stem != "__init__":
                self.assertIn("| `muffline." + path.stem + "` |", TEXT)


if __name__ == "__main__":
    unittest.main()
