import doctest
import pathlib
import unittest

README = pathlib.Path(__file__).resolve().parent.parent / "README.md"


class ReadmeTest(unittest.TestCase):
    def test_its_examples_are_true(self):
        result = doctest.testfile(str(README), module_relative=False)
        self.assertEqual(result.failed, 0)
        self.assertGreater(result.attempted, 0)

    def test_it_says_how_to_use_each_function_and_how_to_run_the_tests(self):
        text = README.read_text(encoding="utf-8")
        for words in ("checked(walk)", "after(walk, start, steps)", "chances(walk, goals)", "waits(walk, goals)",
                      "ends(walk)", "long_run(walk, start)", "beat(walk, start)", "likeness(walk, marks)",
                      "put_together(walk, marks)", "checked_choice(choice)", "picked(choice, picks)",
                      "most(choice, goals)", "least(choice, goals)", "least_costs(choice, costs, goals)",
                      "chance_of(walk, begin, marks, seen)", "where(walk, begin, marks, seen)",
                      "likeliest(walk, begin, marks, seen)", "shown(walk)", "read(text)",
                      "unittest discover -s tests", "bash .ci/run"):
            with self.subTest(words=words):
                self.assertIn(words, text)


if __name__ == "__main__":
    unittest.main()
