"""The grammar as a table, and the search for the first token that does not fit it.

The search needs no recursion: a text that is no program is to be told from one that is too deep, however deep
it is.
"""

from windowada.errors import ParseError

# A rule and the next token give the symbols by which the rule is replaced. The token "" stands for all tokens
# that the rule has no other entry for. Symbols like Body are rules. NAME, NUMBER and END are kinds of tokens.
# OPENING is the name of a subprogram that begins, OWN that name again, CLOSE the semicolon at its end, and
# ATTRIBUTE is first or last. All other symbols are words and signs.
RULES = {
    ("Program", ""): "procedure OPENING is Declarations Body Ending CLOSE",
    ("Ending", "NAME"): "OWN",
    ("Ending", ""): "",
    ("Body", ""): "begin Statements Handlers end",
    ("Handlers", "exception"): "exception Handler",
    ("Handlers", ""): "",
    ("Handler", ""): "when Names => Statements Furtherhandlers",
    ("Furtherhandlers", "when"): "Handler",
    ("Furtherhandlers", ""): "",
    ("Names", "others"): "others",
    ("Names", ""): "NAME Furthernames",
    ("Furthernames", "|"): "| NAME Furthernames",
    ("Furthernames", ""): "",

    ("Declarations", "NAME"): "NAME : Object ; Declarations",
    ("Declarations", "subtype"): "subtype NAME is NAME range Bound .. Bound ; Declarations",
    ("Declarations", "type"): "type NAME is array ( Bound .. Bound ) of NAME ; Declarations",
    ("Declarations", "procedure"): "procedure OPENING Parameters is Declarations Body Ending CLOSE Declarations",
    ("Declarations", "function"):
        "function OPENING Parameters return NAME is Declarations Body Ending CLOSE Declarations",
    ("Declarations", ""): "",
    ("Object", "constant"): "constant NAME := Expression",
    ("Object", "exception"): "exception",
    ("Object", ""): "NAME Startvalue",
    ("Startvalue", ":="): ":= Expression",
    ("Startvalue", ""): "",
    ("Parameters", "("): "( Parameter Furtherparameters )",
    ("Parameters", ""): "",
    ("Parameter", ""): "NAME : Modein Modeout NAME",
    ("Furtherparameters", ";"): "; Parameter Furtherparameters",
    ("Furtherparameters", ""): "",
    ("Modein", "in"): "in",
    ("Modein", ""): "",
    ("Modeout", "out"): "out",
    ("Modeout", ""): "",
    ("Bound", "-"): "- NUMBER",
    ("Bound", ""): "NUMBER",

    ("Statements", ""): "Statement Furtherstatements",
    ("Furtherstatements", "end"): "",
    ("Furtherstatements", "exception"): "",
    ("Furtherstatements", "when"): "",
    ("Furtherstatements", "elsif"): "",
    ("Furtherstatements", "else"): "",
    ("Furtherstatements", ""): "Statement Furtherstatements",
    ("Statement", "null"): "null ;",
    ("Statement", "NAME"): "NAME Aftername ;",
    ("Statement", "put"): "put ( Expression ) ;",
    ("Statement", "get"): "get ( NAME Index ) ;",
    ("Statement", "if"): "if Expression then Statements Elsifs Else end if ;",
    ("Statement", "while"): "while Expression loop Statements end loop ;",
    ("Statement", "loop"): "loop Statements end loop ;",
    ("Statement", "for"): "for NAME in Reverse Expression .. Expression loop Statements end loop ;",
    ("Statement", "case"): "case Expression is when Arms end case ;",
    ("Statement", "exit"): "exit Exitcondition ;",
    ("Statement", "return"): "return Result ;",
    ("Statement", "raise"): "raise Raised ;",
    ("Statement", "declare"): "declare Declarations Body ;",
    ("Statement", "begin"): "Body ;",
    ("Aftername", ":="): ":= Expression",
    ("Aftername", "("): "( Expression Afterfirst",
    ("Aftername", ""): "",
    ("Afterfirst", ","): ", Expression Furtherexpressions )",
    ("Afterfirst", ""): ") Afterindex",
    ("Afterindex", ":="): ":= Expression",
    ("Afterindex", ""): "",
    ("Index", "("): "( Expression )",
    ("Index", ""): "",
    ("Elsifs", "elsif"): "elsif Expression then Statements Elsifs",
    ("Elsifs", ""): "",
    ("Else", "else"): "else Statements",
    ("Else", ""): "",
    ("Reverse", "reverse"): "reverse",
    ("Reverse", ""): "",
    ("Arms", "others"): "others => Statements",
    ("Arms", ""): "Choice Furtherchoices => Statements when Arms",
    ("Choice", ""): "Bound Secondbound",
    ("Secondbound", ".."): ".. Bound",
    ("Secondbound", ""): "",
    ("Furtherchoices", "|"): "| Choice Furtherchoices",
    ("Furtherchoices", ""): "",
    ("Exitcondition", "when"): "when Expression",
    ("Exitcondition", ""): "",
    ("Result", ";"): "",
    ("Result", ""): "Expression",
    ("Raised", "NAME"): "NAME",
    ("Raised", ""): "",

    ("Expression", ""): "Relation Logic",
    ("Logic", "and"): "and Afterand",
    ("Logic", "or"): "or Afteror",
    ("Logic", "xor"): "xor Relation Xors",
    ("Logic", ""): "",
    ("Afterand", "then"): "then Relation Andthens",
    ("Afterand", ""): "Relation Ands",
    ("Afteror", "else"): "else Relation Orelses",
    ("Afteror", ""): "Relation Ors",
    ("Ands", "and"): "and Relation Ands",
    ("Ands", ""): "",
    ("Ors", "or"): "or Relation Ors",
    ("Ors", ""): "",
    ("Xors", "xor"): "xor Relation Xors",
    ("Xors", ""): "",
    ("Andthens", "and"): "and then Relation Andthens",
    ("Andthens", ""): "",
    ("Orelses", "or"): "or else Relation Orelses",
    ("Orelses", ""): "",
    ("Relation", ""): "Sum Comparison",
    ("Comparison", "="): "= Sum",
    ("Comparison", "/="): "/= Sum",
    ("Comparison", "<"): "< Sum",
    ("Comparison", "<="): "<= Sum",
    ("Comparison", ">"): "> Sum",
    ("Comparison", ">="): ">= Sum",
    ("Comparison", ""): "",
    ("Sum", ""): "Term Furtherterms",
    ("Furtherterms", "+"): "+ Term Furtherterms",
    ("Furtherterms", "-"): "- Term Furtherterms",
    ("Furtherterms", ""): "",
    ("Term", ""): "Factor Furtherfactors",
    ("Furtherfactors", "*"): "* Factor Furtherfactors",
    ("Furtherfactors", "/"): "/ Factor Furtherfactors",
    ("Furtherfactors", "mod"): "mod Factor Furtherfactors",
    ("Furtherfactors", "rem"): "rem Factor Furtherfactors",
    ("Furtherfactors", ""): "",
    ("Factor", "-"): "- Factor",
    ("Factor", "abs"): "abs Factor",
    ("Factor", "not"): "not Factor",
    ("Factor", "NUMBER"): "NUMBER",
    ("Factor", "true"): "true",
    ("Factor", "false"): "false",
    ("Factor", "NAME"): "NAME Suffix",
    ("Factor", "("): "( Expression )",
    ("Suffix", "'"): "' ATTRIBUTE",
    ("Suffix", "("): "( Expression Furtherexpressions )",
    ("Suffix", ""): "",
    ("Furtherexpressions", ","): ", Expression Furtherexpressions",
    ("Furtherexpressions", ""): "",
}


def accept(tokens, rule):
    """Raises ParseError at the first token with which no text of the rule can go on."""
    search = Search(rule)
    for kind, value, line, column in tokens:
        if not search.accepts(kind, value):
            raise ParseError("the text cannot go on like this", (line, column))


class Search:
    """The symbols that are still to come, the next one last, and the names of the open subprograms."""

    def __init__(self, rule):
        self._symbols = ["END", rule]
        self._names = []

    def accepts(self, kind, value):
        """Returns True if the token can come next, and goes on behind it."""
        token = value if kind in ("word", "sign") else kind.upper()
        while self._symbols[-1].istitle():
            rule = self._symbols.pop()
            symbols = RULES.get((rule, token), RULES.get((rule, "")))
            if symbols is None:
                return False
            self._symbols.extend(symbols.split()[::-1])
        symbol = self._symbols.pop()
        if symbol == "OPENING":
            self._names.append(value)
            return token == "NAME"
        if symbol == "OWN":
            return token == "NAME" and value == self._names[-1]
        if symbol == "ATTRIBUTE":
            return token == "NAME" and value in ("first", "last")
        if symbol == "CLOSE":
            self._names.pop()
            return token == ";"
        return token == symbol
