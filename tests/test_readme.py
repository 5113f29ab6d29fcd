import doctest
import os
import unittest

README = os.path.join(os.path.dirname(os.path.dirname(os.path.abspath(__file__))), "README.md")


class Readme(unittest.TestCase):
    def test_examples(self):
        with open(README, encoding="utf-8") as file:
            # A fence ends an example as an empty line does.
            text = file.read().replace("```", "")
        examples = doctest.DocTestParser().get_doctest(text, {}, "README", README, 0)
        self.assertTrue(len(examples.examples) > 5)
        failed = doctest.DocTestRunner(verbose=False).run(examples).failed
        self.assertEqual(failed, 0)


if __name__ == "__main__":
    unittest.main()
