"""The grammar of point [13] as it stands there, and a recognizer that takes it as it is.

It tells how many tokens of a sequence begin some program. It does not know that the name behind an end is that of
its subprogram, so the tests call all subprograms p.
"""

GRAMMAR = '''
program      = "procedure" NAME "is" {declaration} body [NAME] ";"
body         = "begin" statements ["exception" handler {handler}] "end"
declaration  = NAME ":" mark [":=" expression] ";"
             | NAME ":" "constant" mark ":=" expression ";"
             | NAME ":" "exception" ";"
             | "subtype" NAME "is" mark "range" bound ".." bound ";"
             | "type" NAME "is" "array" "(" bound ".." bound ")" "of" mark ";"
             | "procedure" NAME [parameters] "is" {declaration} body [NAME] ";"
             | "function" NAME [parameters] "return" mark "is" {declaration} body [NAME] ";"
parameters   = "(" parameter {";" parameter} ")"
parameter    = NAME ":" ["in"] ["out"] mark
mark         = NAME
bound        = ["-"] NUMBER
handler      = "when" names "=>" statements
names        = "others" | NAME {"|" NAME}
statements   = statement {statement}
statement    = "null" ";"
             | target ":=" expression ";"
             | NAME [arguments] ";"
             | "put" "(" expression ")" ";"
             | "get" "(" target ")" ";"
             | "if" expression "then" statements {"elsif" expression "then" statements}
               ["else" statements] "end" "if" ";"
             | "while" expression "loop" statements "end" "loop" ";"
             | "loop" statements "end" "loop" ";"
             | "for" NAME "in" ["reverse"] expression ".." expression "loop" statements "end" "loop" ";"
             | "case" expression "is" {"when" choice {"|" choice} "=>" statements}
               "when" "others" "=>" statements "end" "case" ";"
             | "exit" ["when" expression] ";"
             | "return" [expression] ";"
             | "raise" [NAME] ";"
             | ["declare" {declaration}] body ";"
target       = NAME ["(" expression ")"]
choice       = bound [".." bound]
arguments    = "(" expression {"," expression} ")"
expression   = relation {"and" relation} | relation {"or" relation} | relation {"xor" relation}
             | relation {"and" "then" relation} | relation {"or" "else" relation}
relation     = sum [("=" | "/=" | "<" | "<=" | ">" | ">=") sum]
sum          = term {("+" | "-") term}
term         = factor {("*" | "/" | "mod" | "rem") factor}
factor       = ("-" | "abs" | "not") factor | primary
primary      = NUMBER | "true" | "false" | NAME | NAME "'" ATTRIBUTE | NAME arguments | "(" expression ")"
'''


def read_grammar():
    """Returns a dict from each rule to a list of alternatives, tuples of symbols."""
    rules = {}
    words = []
    for line in GRAMMAR.split("\n"):
        words.extend(line.split())
    # A pair of quotes may hold a bracket or a brace, so only bare ones open and close.
    reader = RuleReader(words, rules)
    starts = [at for at in range(len(words) - 1) if words[at + 1] == "=" and words[at].isalpha()]
    for start, end in zip(starts, starts[1:] + [len(words)]):
        reader.read(words[start], words[start + 2:end])
    return rules


class RuleReader:
    """Turns rules with brackets into rules without them."""

    def __init__(self, words, rules):
        self.rules = rules
        self.count = 0

    def read(self, name, words):
        pieces = []
        for word in words:
            pieces.extend(split_word(word))
        self.rules[name] = self.alternatives(pieces)

    def alternatives(self, pieces):
        found = [[]]
        at = 0
        while at < len(pieces):
            piece = pieces[at]
            if piece == "|":
                found.append([])
            elif piece in ("[", "{", "("):
                end = closing(pieces, at)
                found[-1].append(self.group(piece, pieces[at + 1:end]))
                at = end
            else:
                found[-1].append(piece)
            at += 1
        return [tuple(alternative) for alternative in found]

    def group(self, bracket, pieces):
        self.count += 1
        name = f"group {self.count}"
        inner = self.alternatives(pieces)
        if bracket == "[":
            inner.append(())
        elif bracket == "{":
            inner = [(*alternative, name) for alternative in inner] + [()]
        self.rules[name] = inner
        return name


def split_word(word):
    """Returns the symbols and brackets of a word."""
    pieces = []
    while word:
        if word[0] == '"':
            end = word.index('"', 1) + 1
            pieces.append(word[:end])
            word = word[end:]
        elif word[0] in "[]{}()|":
            pieces.append(word[0])
            word = word[1:]
        else:
            end = min([word.index(mark) for mark in "[]{}()|" if mark in word] + [len(word)])
            pieces.append(word[:end])
            word = word[end:]
    return pieces


def closing(pieces, at):
    """Returns the index of the bracket that closes the one at an index."""
    deep = 0
    for index in range(at, len(pieces)):
        deep += pieces[index] in ("[", "{", "(")
        deep -= pieces[index] in ("]", "}", ")")
        if deep == 0:
            return index
    raise AssertionError


RULES = read_grammar()


def empty_rules():
    """Returns the rules that may stand for nothing."""
    empty = set()
    while True:
        more = {
            name for name, alternatives in RULES.items()
            if any(all(symbol in empty for symbol in alternative) for alternative in alternatives)
        }
        if more == empty:
            return empty
        empty = more


EMPTY = empty_rules()


def viable(tokens, start):
    """Returns how many of the tokens, the end of the text among them, begin some text of a rule."""
    sets = [close({("whole", (start, "END"), 0, 0)}, [], 0)]
    for at, token in enumerate(tokens):
        moved = {
            (name, symbols, dot + 1, origin) for name, symbols, dot, origin in sets[-1]
            if dot < len(symbols) and fits(symbols[dot], token)
        }
        if not moved:
            return at
        sets.append(close(moved, sets, at + 1))
    return len(tokens)


def fits(symbol, token):
    kind, value = token[:2]
    if kind in ("word", "sign"):
        return symbol == f'"{value}"'
    if kind == "name":
        return symbol == "NAME" or (symbol == "ATTRIBUTE" and value in ("first", "last"))
    return symbol == kind.upper()


def close(items, sets, at):
    """Returns the items with all that follow from them."""
    found = set(items)
    todo = list(items)
    while todo:
        name, symbols, dot, origin = todo.pop()
        more = []
        if dot == len(symbols):
            earlier = found if origin == at else sets[origin]
            more = [(a, b, c + 1, d) for a, b, c, d in list(earlier) if c < len(b) and b[c] == name]
        elif symbols[dot] in RULES:
            more = [(symbols[dot], alternative, 0, at) for alternative in RULES[symbols[dot]]]
            if symbols[dot] in EMPTY:
                more.append((name, symbols, dot + 1, origin))
        for item in more:
            if item not in found:
                found.add(item)
                todo.append(item)
    return found
