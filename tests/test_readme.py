"""The examples of README.md run, and say what their comments say."""

import pathlib
import re
import unittest

TEXT = (pathlib.Path(__file__).resolve().parent.parent / "README.md").read_text(encoding="ascii")


class Readme(unittest.TestCase):
    def test_the_examples_run(self):
        blocks = re.findall(r"```python\n(.*?)```", TEXT, re.DOTALL)
        self.assertGreater(len(blocks), 3)
        names = {}
        for block in blocks:
            exec(compile(block, "README.md", "exec"), names)
        self.assertEqual(names["size"](names["term"]), 5)
        self.assertEqual(names["recipe"], ("unlock", ("letter", 0), ("letter", 2)))
        x, y, mark = names["x"], names["y"], names["mark"]
        self.assertEqual(names["unify"](("pair", x, ("digest", y)), ("pair", y, ("digest", mark))), ((x, mark), (y, mark)))

        kind, paper = names["judge"](names["spied"], names["claim"])
        self.assertEqual((kind, paper), ("run", ((0, None),)))
        self.assertEqual(names["kind"], "paper")
        self.assertEqual(names["test"], ("equal", ("letter", 1), ("digest", ("letter", 0))))
        self.assertEqual((names["numbers"], names["trials"]), ((0,), (((), ((0, None),)),)))
        self.assertEqual(names["project"](names["joined"], 1, ((1, None), (0, None))), ((0, None),))
        self.assertEqual(names["ward"].verdict(0), ("run", ((0, None),), "kept"))
        self.assertEqual(["# " + line for line in names["text"].split("\n")], re.findall(r"^# .*", TEXT[TEXT.index("text = write"):], re.MULTILINE)[:6])
        self.assertEqual(names["desk"].answer("judge 0"), "keeps")
        self.assertEqual((names["tunnel"].received, names["tunnel"].deliver(0)), ((0,), "again"))

    def test_all_modules_are_listed(self):
        package = pathlib.Path(__file__).resolve().parent.parent / "muffline"
        for path in package.glob("*.py"):
            if path.stem != "__init__":
                self.assertIn("| `muffline." + path.stem + "` |", TEXT)


if __name__ == "__main__":
    unittest.main()
