"""What README.md shows can be run as it stands, and tells what it says it tells."""

import ast
import pathlib
import re
import unittest

README = pathlib.Path(__file__).resolve().parent.parent / "README.md"


def told_worth(comment):
    """The worth that a comment begins with, up to a colon or its end; None where it tells no worth."""
    for text in (comment, comment.partition(": ")[0], comment.partition(",")[0]):
        try:
            return (ast.literal_eval(text.strip()),)
        except (ValueError, SyntaxError):
            continue
    return None


class Readme(unittest.TestCase):
    def test_its_code(self):
        code = "\n".join(re.findall(r"```python\n(.*?)```", README.read_text(encoding="utf-8"), re.S))
        lines, known, compared = code.split("\n"), {"print": lambda *parts: None}, 0
        for node in ast.parse(code).body:
            text = ast.get_source_segment(code, node)
            if not isinstance(node, ast.Expr):
                exec(text, known)
                continue
            worth = eval(text, known)
            wanted = told_worth(lines[node.end_lineno - 1].partition("#")[2])
            if wanted is not None:
                self.assertEqual(worth, wanted[0], text)
                compared += 1
        self.assertGreater(compared, 25)


if __name__ == "__main__":
    unittest.main()
