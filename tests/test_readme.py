import doctest
import os
import unittest

README = os.path.join(os.path.dirname(os.path.dirname(os.path.abspath(__file__))), "README.md")


class Readme(unittest.TestCase):

    def test_the_examples(self):
        with open(README, encoding="ascii") as file:
            # The line behind an example would be taken for a part of its answer.
            text = file.read().replace("```", "")
        examples = doctest.DocTestParser().get_doctest(text, {}, "README.md", README, 0)
        told = []
        found = doctest.DocTestRunner(verbose=False).run(examples, out=told.append)
        self.assertGreater(found.attempted, 0)
        self.assertEqual(found.failed, 0, "".join(told))


if __name__ == "__main__":
    unittest.main()
