"""What README.md shows is what the program tells."""

import ast
import pathlib
import re
import unittest

README = pathlib.Path(__file__).resolve().parent.parent / "README.md"


def shown(note):
    """What a comment says is told, up to a note behind it; nothing where it is a note alone."""
    for at in [*[found.start() for found in re.finditer("[:;,]", note)], len(note)]:
        try:
            return [ast.literal_eval(note[:at])]
        except (SyntaxError, ValueError):
            pass
    return []


class Readme(unittest.TestCase):
    def told(self, block):
        """Run a block statement by statement; told is how many answers were compared."""
        rows, known, many = block.split("\n"), {"print": lambda told: self.assertEqual(told, 3)}, 0
        for statement in ast.parse(block).body:
            code = ast.unparse(statement)
            note = rows[statement.end_lineno - 1][statement.end_col_offset:].strip().removeprefix("# ")
            if isinstance(statement, ast.Expr):
                answer = eval(code, known)
            else:
                exec(code, known)
                answer = known.get(code.partition(" = ")[0])
            for worth in shown(note) if isinstance(statement, (ast.Expr, ast.Assign)) else ():
                self.assertEqual(repr(answer), repr(worth), code)
                many += 1
        return many

    def test_each_block(self):
        blocks = re.findall(r"```python\n(.*?)```", README.read_text(encoding="ascii"), re.S)
        self.assertEqual([self.told(block) for block in blocks], [8, 9, 13, 11])


if __name__ == "__main__":
    unittest.main()
