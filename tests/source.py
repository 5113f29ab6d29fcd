"""The source files of the package, parsed."""

import ast
import os

FOLDER = os.path.join(os.path.dirname(os.path.dirname(os.path.abspath(__file__))), "indicial")


def file_names():
    return sorted(name for name in os.listdir(FOLDER) if name != "__pycache__")


def text_of(name):
    with open(os.path.join(FOLDER, name), encoding="utf-8", newline="") as file:
        return file.read()


def tree_of(name):
    return ast.parse(text_of(name))


def modules():
    """Triples of the name without its ending, the text and the tree."""
    return [(name[:-3], text_of(name), tree_of(name)) for name in file_names()]


def imports(tree):
    """Pairs of a module and a name imported from it, in the whole file."""
    found = []
    for node in ast.walk(tree):
        if isinstance(node, ast.ImportFrom):
            found.extend((node.module, alias.name) for alias in node.names)
        elif isinstance(node, ast.Import):
            found.extend((alias.name, None) for alias in node.names)
    return found


def defined(tree):
    """The names of the functions and classes at module level."""
    return [node.name for node in tree.body if isinstance(node, (ast.FunctionDef, ast.ClassDef))]


def methods(tree, name):
    """The names of the methods in the body of this class itself."""
    for node in tree.body:
        if isinstance(node, ast.ClassDef) and node.name == name:
            return [part.name for part in node.body if isinstance(part, ast.FunctionDef)]
    return []
