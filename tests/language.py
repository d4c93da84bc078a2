"""What can be checked simply of LANGUAGE.md: what breaks L1, L10 and L14 in a folder."""

import ast
import pathlib
import re

FUNCTION_LINES = 40
FILE_LINES = 399
LINE_SIGNS = 120

PLAIN_FILE = re.compile(r"[a-z0-9_]+\.py")


def faults_of_folder(folder):
    """What in the folder, a path, breaks the rules, a text each; none where all is well."""
    faults = []
    if not (pathlib.Path(folder) / "__init__.py").is_file():
        faults.append("L14 the folder has no __init__.py")
    for path in sorted(pathlib.Path(folder).iterdir()):
        # Python itself leaves this folder when the package is imported; git leaves it out.
        if path.name == "__pycache__":
            continue
        if not path.is_file() or not PLAIN_FILE.fullmatch(path.name):
            faults.append(f"L1 {path.name} is no plainly named .py file")
        else:
            faults += [f"{path.name}: {fault}" for fault in faults_of_source(path.read_bytes())]
    return faults


def faults_of_source(source):
    """What in a file's bytes breaks the rules, a text each."""
    return faults_of_signs(source) + faults_of_lines(source) + faults_of_functions(source)


def faults_of_signs(source):
    """L14: each sign is one from the space to ~, or a line feed. (So there are no tabs, L10.)"""
    odd = sorted({sign for sign in source if sign != 10 and not 32 <= sign <= 126})
    return [f"L14 byte {sign}" for sign in odd]


def faults_of_lines(source):
    """L10: how many lines, and how long each may be."""
    lines = source.split(b"\n")
    if lines[-1] == b"":
        lines.pop()
    faults = []
    if len(lines) > FILE_LINES:
        faults.append(f"L10 {len(lines)} lines")
    for at, line in enumerate(lines, start=1):
        if len(line) > LINE_SIGNS:
            faults.append(f"L10 line {at} has {len(line)} signs")
    return faults


def faults_of_functions(source):
    """L10: how many lines a function may have."""
    faults = []
    for node in ast.walk(ast.parse(source)):
        if isinstance(node, (ast.FunctionDef, ast.AsyncFunctionDef, ast.Lambda)):
            first = min([node.lineno] + [mark.lineno for mark in getattr(node, "decorator_list", [])])
            many = node.end_lineno - first + 1
            if many > FUNCTION_LINES:
                faults.append(f"L10 the function in line {node.lineno} has {many} lines")
    return faults
