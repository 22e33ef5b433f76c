"""Point 1's last row, and those rules of LANGUAGE.md that can be seen at a glance."""

import ast
import builtins
import os
import pathlib
import re
import subprocess
import sys
import unittest

ROOT = pathlib.Path(__file__).resolve().parent.parent
FILES = sorted((ROOT / "lampcode").glob("*.py"))

ALLOWED = set(
    "len range enumerate zip min max sum abs sorted reversed int str bool list tuple dict set frozenset"
    " isinstance ord repr any all divmod Exception ValueError TypeError KeyError IndexError LookupError"
    " ZeroDivisionError ArithmeticError OverflowError RuntimeError NotImplementedError AttributeError"
    " StopIteration".split()
)
BANNED_WORDS = re.compile(
    r"\b(type|typing|typing_extensions|enum|Enum|IntEnum|StrEnum|Flag|IntFlag|Generic|Protocol|ABC|ABCMeta"
    r"|namedtuple|NamedTuple|TypedDict|TYPE_CHECKING|abstractmethod)\b|dataclass|overload|contextmanager"
)

# Prints the same under every seed of Python's hashes, unless the order of a set gets through.
ANSWERS = """
from lampcode.codes import codes
from lampcode.counting import counts_of
from lampcode.joining import book_of, joints
from lampcode.notes import read_notes, shown
from lampcode.numbers import flashes_of, number_of
from lampcode.pressing import pressed, read
text = "a lamp tells by short and long flashes what it has to tell, ~ 0123456789"
counts = counts_of(text)
print(counts, joints(counts), book_of(counts), codes(book_of(counts)))
book, flashes = pressed(text)
print(book, flashes, read(book, flashes), shown(book), read_notes(shown(book)))
print(number_of(flashes), flashes_of(number_of(flashes)))
"""


def nodes(file):
    return list(ast.walk(ast.parse(file.read_text(encoding="utf-8"))))


class Language(unittest.TestCase):
    def test_there_are_files(self):
        self.assertIn(ROOT / "lampcode" / "__init__.py", FILES)

    def test_only_the_packages_own_modules_are_drawn_from(self):
        for file in FILES:
            for node in nodes(file):
                self.assertNotIsInstance(node, ast.Import, file)
                if isinstance(node, ast.ImportFrom):
                    self.assertEqual(node.level, 0, file)
                    self.assertTrue(node.module.startswith("lampcode."), file)

    def test_only_the_allowed_names_of_python_are_used(self):
        for file in FILES:
            used = {node.id for node in nodes(file) if isinstance(node, ast.Name)}
            self.assertLessEqual(used & set(dir(builtins)), ALLOWED, file)

    def test_signs_words_and_sizes(self):
        for file in FILES:
            text = file.read_text(encoding="utf-8")
            self.assertRegex(text, r"\A[ -~\n]*\Z", file)
            self.assertIsNone(BANNED_WORDS.search(text), file)
            lines = text.splitlines()
            self.assertLessEqual(len(lines), 400, file)
            self.assertLessEqual(max(map(len, lines), default=0), 120, file)
            for node in nodes(file):
                if isinstance(node, ast.FunctionDef):
                    self.assertLessEqual(node.end_lineno - node.lineno + 1, 40, file)

    def test_answers_are_the_same_under_every_hash_seed(self):
        answers = set()
        for seed in ("0", "1", "2", "3"):
            place = dict(os.environ, PYTHONHASHSEED=seed, PYTHONPATH=str(ROOT), PYTHONDONTWRITEBYTECODE="1")
            done = subprocess.run([sys.executable, "-c", ANSWERS], env=place, capture_output=True, check=True)
            answers.add(done.stdout)
        self.assertEqual(len(answers), 1)


if __name__ == "__main__":
    unittest.main()
