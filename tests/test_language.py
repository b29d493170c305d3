"""The rules of the language that can be seen by looking at each file alone."""

import ast
import builtins
import pathlib
import unittest

FOLDER = pathlib.Path(__file__).parent.parent / 'latecharge'
FILES = {path: path.read_text(encoding='utf-8') for path in sorted(FOLDER.glob('*.py'))}
TREES = {path: ast.parse(text) for path, text in FILES.items()}
BUILTINS = set('''len range enumerate zip min max sum abs sorted reversed int str bool list tuple dict set isinstance ord
    repr any all divmod iter ValueError TypeError NotImplemented property staticmethod classmethod'''.split())
BARRED = {'register', 'mro', 'elements', 'open', 'input', 'law', 'type', 'id', 'vars', 'dir', 'help', 'exit'}


def functions(tree):
    return [node for node in ast.walk(tree) if isinstance(node, ast.FunctionDef)]


def bound_in(function):
    """The names of the parameters and the local variables of a function."""
    args = function.args
    names = [arg.arg for arg in args.posonlyargs + args.args + args.kwonlyargs]
    stored = [node.id for node in ast.walk(function) if isinstance(node, ast.Name) and isinstance(node.ctx, ast.Store)]
    return set(names + stored)


def bound_at_top(tree):
    """The names of imports, classes and functions of a file."""
    names = []
    for node in tree.body:
        if isinstance(node, ast.ImportFrom):
            names += [alias.name for alias in node.names]
        elif isinstance(node, (ast.ClassDef, ast.FunctionDef)):
            names.append(node.name)
        elif isinstance(node, ast.Assign):
            names += [target.id for target in node.targets]
    return names


class TestLanguage(unittest.TestCase):

    def test_files(self):
        self.assertIn(FOLDER / '__init__.py', FILES)
        others = [path for path in FOLDER.iterdir() if path not in FILES and path.name != '__pycache__']
        self.assertEqual(others, [])
        self.assertLessEqual(len(FILES), 100)

    def test_sizes_and_characters(self):
        for path, text in FILES.items():
            lines = text.split('\n')
            self.assertLessEqual(len(lines), 399, path)
            self.assertLessEqual(max(len(line) for line in lines), 120, path)
            self.assertTrue(all(' ' <= sign <= '~' or sign == '\n' for sign in text), path)
            for function in functions(TREES[path]):
                self.assertLessEqual(function.end_lineno - function.lineno + 1, 40, (path, function.name))

    def test_imports(self):
        for path, tree in TREES.items():
            imports = [node for node in ast.walk(tree) if isinstance(node, (ast.Import, ast.ImportFrom))]
            for node in imports:
                self.assertIsInstance(node, ast.ImportFrom, path)
                source = FOLDER / (node.module.removeprefix('latecharge.') + '.py')
                self.assertEqual((node.level, node.module.split('.')[0]), (0, 'latecharge'), path)
                defined = [part.name for part in TREES[source].body if isinstance(part, (ast.ClassDef, ast.FunctionDef))]
                for alias in node.names:
                    self.assertIn(alias.name, defined + bound_at_top(TREES[source]), path)
                    self.assertIsNone(alias.asname, path)
                    if alias.name[0].islower():
                        self.assertIn(alias.name, defined, path)

    def test_names(self):
        for path, tree in TREES.items():
            top = bound_at_top(tree)
            self.assertEqual(len(top), len(set(top)), path)
            imported = {alias.name for node in tree.body if isinstance(node, ast.ImportFrom) for alias in node.names}
            classes = {node.name for node in tree.body if isinstance(node, ast.ClassDef)}
            for function in functions(tree):
                local = bound_in(function)
                self.assertEqual(local & (imported | classes), set(), (path, function.name))
                self.assertEqual(local & (set(dir(builtins)) | BARRED), set(), (path, function.name))
            self.assertEqual(set(top) & (set(dir(builtins)) | BARRED), set(), path)

    def test_builtins(self):
        for path, tree in TREES.items():
            used = {node.id for node in ast.walk(tree) if isinstance(node, ast.Name)} & set(dir(builtins))
            self.assertEqual(used - BUILTINS, set(), path)

    def test_no_generator_expressions(self):
        for path, tree in TREES.items():
            self.assertFalse(any(isinstance(node, ast.GeneratorExp) for node in ast.walk(tree)), path)

    def test_no_barred_nodes(self):
        barred = (ast.Global, ast.AsyncFunctionDef, ast.Await, ast.Div, ast.Import)
        for path, tree in TREES.items():
            for node in ast.walk(tree):
                self.assertNotIsInstance(node, barred, path)
                if isinstance(node, ast.Constant):
                    self.assertNotIsInstance(node.value, float, path)
                    self.assertNotIn('%', node.value if isinstance(node.value, str) else '', path)


if __name__ == '__main__':
    unittest.main()
