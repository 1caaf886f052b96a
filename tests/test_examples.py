"""Every example of DOC.md, as it is printed there, in its order."""

import unittest

from tests.helper import check_example, example_names, examples_in

# In the order of DOC.md, as names keep what earlier examples made them.
WITH_EXAMPLES = [
    "checks", "papers", "words", "word_numbers", "trees", "tree_names", "states", "homes", "loops", "pulls", "rings",
    "rounds", "posts", "reasons", "pull_ways", "books", "sewing", "check_books", "companies", "evenings",
    "walks", "check_walks", "ranks", "pictures", "desks",
]


class Examples(unittest.TestCase):
    def test_each_example_prints_or_raises_what_is_told(self):
        names = example_names(["errors", *WITH_EXAMPLES])
        for module in WITH_EXAMPLES:
            examples = examples_in(module)
            self.assertTrue(examples, module)
            for call, printed in examples:
                with self.subTest(module=module, call=call):
                    check_example(call, printed, names)

    def test_a_wrong_example_fails(self):
        names = example_names(["errors", "words"])
        for call, printed in [
            ('turned("10")', "'01'"),
            ('pairs_in("01")', "raises BadWord('u')"),
            ('pairs_in("01")', "raises BadNumber('word')"),
            ('pairs_in("10")', "raises BadWord('word')"),
            ('pairs_in("10")', "raises BadWord"),
            ('pairs_in("01")', "raises BadState"),
        ]:
            with self.subTest(call=call, printed=printed), self.assertRaises((AssertionError, ValueError)):
                check_example(call, printed, names)


if __name__ == "__main__":
    unittest.main()
