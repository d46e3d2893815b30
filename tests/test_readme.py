"""README.md's examples answer what it says."""

import pathlib
import re
import unittest

README = pathlib.Path(__file__).resolve().parent.parent / "README.md"


class Examples(unittest.TestCase):
    def test_each_answer(self):
        code = re.search("```python\n(.*?)```", README.read_text(encoding="utf-8"), re.DOTALL).group(1)
        names, told = {}, 0
        for line in code.splitlines():
            call, mark, answer = line.partition("  # ")
            if mark:
                with self.subTest(call=call.strip()):
                    self.assertEqual(repr(eval(call.strip(), names)), answer)
                told += 1
            else:
                exec(line, names)
        self.assertGreater(told, 10)


if __name__ == "__main__":
    unittest.main()
