"""FORMULAs made at random as trees, written in many ways, and a plain reader of texts, by way of Python's own."""

import ast
import re

STRENGTHS = {">>": 1, "+": 2, "-": 2, "*": 3, "//": 3, "mod": 3, "turn": 4, "n": 5, "number": 5}
TOKEN = re.compile(r" *([0-9]+|n|mod|//|>>|[-+*()])")
SIGNS = "n0123456789+-*/()>mod "


def drawn_tree(draw, deep, divisors, with_n=True):
    """A tree (word, ..): the divisors are what may stand behind // and mod, powers of 2 behind >> as well."""
    kind = draw.choice(("side", "turn", "+", "-", "*", "*", "//", "//", "mod", ">>")) if deep else "side"
    if kind == "side":
        return ("n",) if with_n and draw.random() < 0.75 else ("number", draw.choice((0, 1, 2, 3, 7, 12, 10 ** 20)))
    one = drawn_tree(draw, deep - 1, divisors, with_n)
    if kind == "turn":
        return (kind, one)
    if kind in ("//", "mod"):
        return (kind, one, draw.choice(divisors))
    if kind == ">>":
        return (kind, one, draw.choice([d for d in divisors if d & (d - 1) == 0]).bit_length() - 1)
    if kind == "*":
        other = drawn_tree(draw, deep - 1, divisors, False)
        return draw.choice(((kind, one, other), (kind, other, one)))
    return (kind, one, drawn_tree(draw, deep - 1, divisors, with_n))


def tree_value(tree, n):
    word = tree[0]
    if word == "n":
        return n
    if word == "number":
        return tree[1]
    one = tree_value(tree[1], n)
    if word == "turn":
        return -one
    if word in ("//", "mod", ">>"):
        divisor = 2 ** tree[2] if word == ">>" else tree[2]
        return one - one // divisor * divisor if word == "mod" else one // divisor
    other = tree_value(tree[2], n)
    return {"+": one + other, "-": one - other, "*": one * other}[word]


def tree_period(tree):
    """The numbers behind all // and mod, and 2 ** s for all >> s, multiplied."""
    product = 1
    for part in tree[1:]:
        if isinstance(part, tuple):
            product *= tree_period(part)
    if tree[0] in ("//", "mod"):
        product *= tree[2]
    return product * 2 ** tree[2] if tree[0] == ">>" else product


def tree_words(draw, tree, needless):
    """The words of the tree, with brackets where they have to be, and elsewhere as often as needless (0 to 1) says."""
    word = tree[0]
    own = STRENGTHS[word]
    if word == "n":
        words = ["n"]
    elif word == "number":
        words = [str(tree[1])]
    elif word == "turn":
        words = ["-"] + side_words(draw, tree[1], own, needless)
    else:
        words = side_words(draw, tree[1], own, needless) + [word]
        words += [str(tree[2])] if isinstance(tree[2], int) else side_words(draw, tree[2], own + 1, needless)
    return words


def side_words(draw, tree, strength, needless):
    words = tree_words(draw, tree, needless)
    if STRENGTHS[tree[0]] < strength or draw.random() < needless:
        return ["("] + words + [")"]
    return words


def tree_text(draw, tree):
    """The tree written with few or with many brackets, with no blanks, one or many."""
    words = tree_words(draw, tree, draw.choice((0, 0, 0.2, 0.6)))
    blanks = draw.choice((("",), (" ",), ("", " "), ("", " ", "   ")))
    return words[0] + "".join([draw.choice(blanks) + word for word in words[1:]])


def bent_text(draw, text):
    """The text with one sign put in, left out, exchanged or doubled."""
    at = draw.randrange(len(text) + 1)
    more = draw.choice(SIGNS)
    return draw.choice((text[:at] + more + text[at:], text[:at] + text[at + 1:], text[:at] + more + text[at + 1:],
                        text[:at + 1] + text[at:]))


def plain_tokens(text):
    """The words of the text; None if it is made of anything else."""
    if len(text) > 200 or text != text.strip(" "):
        return None
    tokens, at = [], 0
    while at < len(text):
        found = TOKEN.match(text, at)
        if found is None:
            return None
        tokens.append(found[1])
        at = found.end()
    return tokens


def plain_formula(text):
    """Python's own tree of the text; None if it is no FORMULA."""
    tokens = plain_tokens(text)
    if not tokens:
        return None
    deep = 0
    for token, behind in zip(tokens, tokens[1:] + [""]):
        deep += (token == "(") - (token == ")")
        if deep > 20 or (token.isdigit() and (len(token) > 50 or str(int(token)) != token)):
            return None
        if token in ("//", "mod", ">>") and not behind.isdigit():
            return None
    try:
        tree = ast.parse(" ".join(["%" if token == "mod" else token for token in tokens]), mode="eval").body
    except SyntaxError:
        return None
    return tree if plain_kinds(tree) else None


def plain_kinds(tree):
    """Whether all parts are of the kinds that a FORMULA has."""
    if isinstance(tree, ast.Name) or isinstance(tree, ast.Constant):
        return True
    if isinstance(tree, ast.UnaryOp):
        return isinstance(tree.op, ast.USub) and plain_kinds(tree.operand)
    if not isinstance(tree, ast.BinOp) or not plain_kinds(tree.left) or not plain_kinds(tree.right):
        return False
    if isinstance(tree.op, ast.Mult):
        return not (has_n(tree.left) and has_n(tree.right))
    if isinstance(tree.op, (ast.FloorDiv, ast.Mod)):
        return isinstance(tree.right, ast.Constant) and tree.right.value >= 1
    if isinstance(tree.op, ast.RShift):
        return isinstance(tree.right, ast.Constant) and tree.right.value <= 300
    return isinstance(tree.op, (ast.Add, ast.Sub))


def has_n(tree):
    return any(isinstance(part, ast.Name) for part in ast.walk(tree))


def plain_value(tree, n):
    """The value by Python's own reckoning."""
    return eval(compile(ast.Expression(tree), "text", "eval"), {"n": n})
