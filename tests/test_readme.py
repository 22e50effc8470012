import doctest
import pathlib
import unittest


class ReadmeTest(unittest.TestCase):
    def test_examples(self):
        path = pathlib.Path(__file__).parent.parent / "README.md"
        # The end of a block is no part of the last answer in it.
        text = path.read_text().replace("```", "")
        examples = doctest.DocTestParser().get_doctest(text, {}, "README.md", str(path), 0)
        told = []
        found = doctest.DocTestRunner(verbose=False).run(examples, out=told.append)
        self.assertEqual(found.failed, 0, "".join(told))
        self.assertGreater(found.attempted, 30)


if __name__ == "__main__":
    unittest.main()
