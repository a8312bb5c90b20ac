import ast
import pathlib
import re
import unittest

FOLDER = pathlib.Path(__file__).resolve().parent
# The numbers that occur in the document.
PROMISES = [number for number in range(1, 149) if number not in (29, 30, 120, 134, 135)]


def told_numbers():
    """The numbers of the promises that the tests name, with the tests that name them."""
    found = {}
    for path in sorted(FOLDER.glob("test_*.py")):
        for node in ast.walk(ast.parse(path.read_text())):
            if not isinstance(node, (ast.ClassDef, ast.FunctionDef)):
                continue
            text = ast.get_docstring(node) or ""
            for words in re.findall(r"Promises? (\d+(?:(?:, | and | to )\d+)*)", text):
                numbers = [int(word) for word in re.findall(r"\d+", words)]
                if " to " in words:
                    numbers = range(numbers[0], numbers[-1] + 1)
                for number in numbers:
                    found.setdefault(number, []).append((path.name, node.name))
    return found


class Promises(unittest.TestCase):
    def test_each_one_has_a_test(self):
        found = told_numbers()
        self.assertEqual([number for number in PROMISES if number not in found], [])
        self.assertEqual([number for number in found if number not in PROMISES], [])


if __name__ == "__main__":
    unittest.main()
