"""The rows of README.md print what is told behind them."""

import contextlib
import io
import os
import re
import unittest

HERE = os.path.dirname(os.path.abspath(__file__))


def readme():
    with open(os.path.join(os.path.dirname(HERE), "README.md"), encoding="utf-8") as file:
        return file.read()


class ReadmeTest(unittest.TestCase):
    def test_rows(self):
        names, asked = {}, 0
        for code in re.findall(r"```python\n(.*?)```", readme(), flags=re.DOTALL):
            for line in code.splitlines():
                printed = io.StringIO()
                with contextlib.redirect_stdout(printed):
                    exec(line, names)
                if line.startswith("print("):
                    asked += 1
                    self.assertEqual(printed.getvalue().strip(), line.split(" # ", 1)[1].strip(), line)
        self.assertEqual(asked, 26)

    def test_all_files_are_named(self):
        text = readme()
        for name in os.listdir(os.path.join(os.path.dirname(HERE), "fromsize")):
            if name.endswith(".py") and name != "__init__.py":
                self.assertIn("`" + name[:-3] + "`", text)


if __name__ == "__main__":
    unittest.main()
