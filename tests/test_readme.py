import ast
import pathlib
import re
import unittest

README = pathlib.Path(__file__).resolve().parent.parent / "README.md"


class Examples(unittest.TestCase):
    def test_answers_are_as_written(self):
        block = re.search(r"```python\n(.*?)```", README.read_text(encoding="utf-8"), re.DOTALL).group(1)
        names = {}
        exec(block, names)
        examples = re.findall(r"^(\w+\(.*\)) +# (\[.*\])$", block, re.MULTILINE)
        self.assertEqual(len(examples), block.count("#"))
        for call, answer in examples:
            with self.subTest(call):
                self.assertEqual(eval(call, names), ast.literal_eval(answer))


if __name__ == "__main__":
    unittest.main()
