"""The package keeps to the rules of the language, as far as code can be seen to."""

import unittest

from tests import language_rules


class LanguageTest(unittest.TestCase):

    def test_the_folder_holds_plain_files_alone(self):
        names = [name for name in language_rules.files() if name != "__pycache__"]
        self.assertIn("__init__.py", names)
        self.assertLessEqual(len(names), 100)
        for name in names:
            self.assertRegex(name, r"\A([a-z][a-z0-9]*|__init__)\.py\Z")

    def test_no_rule_is_broken(self):
        self.assertEqual(language_rules.all_wrong(), [])


if __name__ == "__main__":
    unittest.main()
