import doctest
import pathlib
import re
import unittest

ROOT = pathlib.Path(__file__).resolve().parent.parent


class ReadmeTest(unittest.TestCase):
    def setUp(self):
        self.text = (ROOT / "README.md").read_text(encoding="ascii")

    def test_examples(self):
        code = "\n".join(re.findall(r"```\n(>>>.*?)```", self.text, re.DOTALL))
        examples = doctest.DocTestParser().get_doctest(code, {}, "README.md", None, 0)
        told = []
        result = doctest.DocTestRunner(verbose=False).run(examples, out=told.append)
        self.assertEqual((result.failed, told), (0, []))
        self.assertTrue(result.attempted > 30, result)

    def test_each_module_is_named(self):
        for path in (ROOT / "threeorders").glob("*.py"):
            if path.stem != "__init__":
                self.assertIn(f"`{path.stem}`", self.text)


if __name__ == "__main__":
    unittest.main()
