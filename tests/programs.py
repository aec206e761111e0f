"""Makes trees of valid programs from a seed, for tests that compare one way through the package with another."""

import random

PLACE = (1, 1)
NAMES = ("a", "b", "c", "d", "e1", "f_2", "first", "last", "p", "q", "r")
ARITHMETIC = ("+", "-", "*", "/", "mod", "rem")
RELATIONS = ("=", "/=", "<", "<=", ">", ">=")
LOGIC = ("and", "or", "xor", "and then", "or else")
PREDEFINED = ("constraint_error", "program_error", "storage_error", "end_error")
WORD = (-2147483648, 2147483647)


def make_program(seed):
    """Returns the tree of a program."""
    return Maker(random.Random(seed)).program()


class Scope:
    """The visible names with what they mean, and the names of the innermost region."""

    def __init__(self, visible, own):
        self.visible = dict(visible)
        self.own = set(own)

    def inner(self):
        return Scope(self.visible, ())

    def add(self, name, meaning):
        assert name not in self.own
        self.own.add(name)
        self.visible[name] = meaning

    def all(self, *forms):
        return [(name, meaning) for name, meaning in sorted(self.visible.items()) if meaning[0] in forms]


class Maker:
    """Makes one program.

    The meanings of names are ("mark", kind, low, high), ("arraymark", kind, low, high), ("var", kind, writable),
    ("array", kind, low, high), ("exception",), ("procedure", parameters) and ("function", parameters, kind), where
    parameters are pairs (mode, kind).
    """

    def __init__(self, rng):
        self.rng = rng
        self.subprograms = 1
        self.size = 0

    def program(self):
        visible = {"integer": ("mark", "integer", *WORD), "boolean": ("mark", "boolean", 0, 1)}
        visible.update({name: ("exception",) for name in PREDEFINED})
        scope = Scope(visible, ())
        parts = self.parts(scope, 1, None, 0)
        return ("procedure", "main", (), *parts, PLACE)

    def parts(self, scope, level, result, used):
        """Returns the declarations, statements and handlers of a subprogram."""
        room = [36 - used]
        declarations = self.declarations(scope, level, room, self.rng.randint(0, 6 if level == 1 else 3))
        place = Around(level, result, room)
        return declarations, *self.body(scope, place, 1, self.rng.randint(1, 7 if level == 1 else 4))

    def body(self, scope, around, deep, many):
        statements = self.statements(scope, around, deep, many)
        handlers = []
        if self.rng.random() < 0.3:
            handlers = self.handlers(scope, around, deep)
        elif around.result is not None and deep == 1 and self.rng.random() < 0.9:
            statements = (*statements, ("return", self.expression(scope, around.result, 3), PLACE))
        return statements, tuple(handlers)

    def handlers(self, scope, around, deep):
        names = [name for name, _ in scope.all("exception")]
        self.rng.shuffle(names)
        handlers = []
        inside = around.within(handler=True)
        while names and self.rng.random() < 0.6:
            chosen = tuple(names.pop() for _ in range(min(len(names), self.rng.randint(1, 3))))
            handlers.append((chosen, self.statements(scope, inside, deep, self.rng.randint(1, 2)), PLACE))
        if not handlers or self.rng.random() < 0.5:
            handlers.append((None, self.statements(scope, inside, deep, self.rng.randint(1, 2)), PLACE))
        return handlers

    # Declarations

    def fresh(self, scope):
        names = [name for name in NAMES if name not in scope.own]
        return self.rng.choice(names) if names else None

    def declarations(self, scope, level, room, many):
        made = []
        for _ in range(many):
            name = self.fresh(scope)
            if name is not None:
                made.extend(self.declaration(scope, level, room, name))
        return tuple(made)

    def declaration(self, scope, level, room, name):
        form = self.rng.choice(
            ["variable"] * 4 + ["constant", "subtype", "array", "exception"] + ["subprogram"] * 4
        )
        if form == "variable":
            return self.variable(scope, room, name)
        if form == "constant" and room[0] > 0:
            room[0] -= 1
            mark, (_, kind, _, _) = self.rng.choice(scope.all("mark"))
            expression = self.expression(scope, kind, 2)
            scope.add(name, ("var", kind, False))
            return [("constant", name, mark, expression, PLACE)]
        if form == "subtype":
            return self.subtype(scope, name)
        if form == "array":
            mark, (_, kind, _, _) = self.rng.choice(scope.all("mark"))
            low = self.rng.randint(-3, 3)
            high = low + self.rng.randint(0, 4)
            scope.add(name, ("arraymark", kind, low, high))
            return [("array", name, low, high, mark, PLACE)]
        if form == "exception":
            scope.add(name, ("exception",))
            return [("exception", name, PLACE)]
        if form == "subprogram" and level < 4 and self.subprograms < 8:
            return [self.subprogram(scope, level + 1, name)]
        return []

    def variable(self, scope, room, name):
        mark, meaning = self.rng.choice(scope.all("mark", "arraymark"))
        kind = meaning[1]
        if meaning[0] == "arraymark":
            if room[0] < meaning[3] - meaning[2] + 1:
                return []
            room[0] -= meaning[3] - meaning[2] + 1
            scope.add(name, ("array", *meaning[1:]))
            return [("variable", name, mark, None, PLACE)]
        if room[0] < 1:
            return []
        room[0] -= 1
        expression = self.expression(scope, kind, 2) if self.rng.random() < 0.5 else None
        scope.add(name, ("var", kind, True))
        return [("variable", name, mark, expression, PLACE)]

    def subtype(self, scope, name):
        marks = [row for row in scope.all("mark") if row[1][1] == "integer"]
        mark, (_, _, low, high) = self.rng.choice(marks)
        first = self.rng.randint(max(low, -6), max(max(low, -6), min(high, 3)))
        last = min(high, first + self.rng.randint(0, 9))
        if not low <= first <= last:
            return []
        scope.add(name, ("mark", "integer", first, last))
        return [("subtype", name, mark, first, last, PLACE)]

    def subprogram(self, scope, level, name):
        self.subprograms += 1
        is_function = self.rng.random() < 0.5
        marks = scope.all("mark")
        parameters = []
        inside_names = []
        for parameter in self.rng.sample(NAMES, self.rng.choice((0, 1, 1, 2, 3))):
            mark, (_, kind, _, _) = self.rng.choice(marks)
            mode = "in" if is_function else self.rng.choice(("in", "out", "in out"))
            parameters.append((parameter, mode, mark, PLACE))
            inside_names.append((parameter, ("var", kind, mode != "in")))
        signature = tuple((row[1], meaning[1]) for row, (_, meaning) in zip(parameters, inside_names))
        mark, (_, kind, _, _) = self.rng.choice(marks)
        meaning = ("function", signature, kind) if is_function else ("procedure", signature)
        scope.add(name, meaning)
        inside = scope.inner()
        for parameter, its_meaning in inside_names:
            inside.add(parameter, its_meaning)
        parts = self.parts(inside, level, kind if is_function else None, len(parameters))
        head = ("function", name, tuple(parameters), mark) if is_function else ("procedure", name, tuple(parameters))
        return (*head, *parts, PLACE)

    # Statements

    def statements(self, scope, around, deep, many):
        return tuple(self.statement(scope, around, deep) for _ in range(many))

    def statement(self, scope, around, deep):
        simple = [self.assign, self.assign, self.assign, self.put, self.put, self.get, self.call, self.call]
        simple += [self.leave, self.finish, self.trouble, self.null]
        compound = [self.branch, self.whilst, self.plain_loop, self.count_loop, self.count_loop, self.select]
        compound += [self.block, self.block]
        action = self.rng.choice(compound if deep < 5 and self.rng.random() < 0.35 else simple)
        return action(scope, around, deep)

    def some(self, scope, around, deep):
        return self.statements(scope, around, deep + 1, self.rng.randint(1, 3))

    def null(self, _scope, _around, _deep):
        return ("null", PLACE)

    def assign(self, scope, around, deep):
        kind = self.rng.choice(("integer", "integer", "boolean"))
        target = self.target(scope, kind, 4)
        if target is None:
            return self.put(scope, around, deep)
        return ("assign", target, self.expression(scope, kind, 4), PLACE)

    def put(self, scope, _around, _deep):
        return ("put", self.expression(scope, "integer", 4), PLACE)

    def get(self, scope, around, deep):
        target = self.target(scope, "integer", 3)
        return self.put(scope, around, deep) if target is None else ("get", target, PLACE)

    def call(self, scope, around, deep):
        procedures = scope.all("procedure")
        if not procedures:
            return self.put(scope, around, deep)
        name, (_, parameters) = self.rng.choice(procedures)
        arguments = []
        for mode, kind in parameters:
            argument = self.expression(scope, kind, 3) if mode == "in" else self.target(scope, kind, 3)
            if argument is None:
                return self.put(scope, around, deep)
            arguments.append(argument)
        return ("call", name, tuple(arguments), PLACE)

    def leave(self, scope, around, deep):
        if not around.loop:
            return self.assign(scope, around, deep)
        condition = self.expression(scope, "boolean", 3) if self.rng.random() < 0.7 else None
        return ("exit", condition, PLACE)

    def finish(self, scope, around, deep):
        if self.rng.random() < 0.6:
            return self.assign(scope, around, deep)
        if around.result is None:
            return ("return", None, PLACE)
        return ("return", self.expression(scope, around.result, 3), PLACE)

    def trouble(self, scope, around, deep):
        if around.handler and self.rng.random() < 0.4:
            return ("raise", None, PLACE)
        if self.rng.random() < 0.5:
            return self.assign(scope, around, deep)
        return ("raise", self.rng.choice(scope.all("exception"))[0], PLACE)

    def branch(self, scope, around, deep):
        branches = tuple(
            (self.expression(scope, "boolean", 3), self.some(scope, around, deep))
            for _ in range(self.rng.randint(1, 3))
        )
        otherwise = self.some(scope, around, deep) if self.rng.random() < 0.5 else ()
        return ("if", branches, otherwise, PLACE)

    def whilst(self, scope, around, deep):
        condition = self.expression(scope, "boolean", 3)
        return ("while", condition, self.some(scope, around.within(loop=True), deep), PLACE)

    def plain_loop(self, scope, around, deep):
        return ("loop", self.some(scope, around.within(loop=True), deep), PLACE)

    def count_loop(self, scope, around, deep):
        if around.room[0] < 1:
            return self.null(scope, around, deep)
        around.room[0] -= 1
        low = self.expression(scope, "integer", 2)
        high = self.expression(scope, "integer", 2)
        inside = scope.inner()
        name = self.rng.choice(NAMES)
        inside.add(name, ("var", "integer", False))
        statements = self.some(inside, around.within(loop=True), deep)
        return ("for", name, self.rng.random() < 0.4, low, high, statements, PLACE)

    def select(self, scope, around, deep):
        arms = []
        for _ in range(self.rng.randint(0, 3)):
            choices = []
            for _ in range(self.rng.randint(1, 3)):
                low = self.rng.randint(-4, 4)
                choices.append((low, low + self.rng.choice((0, 0, 1, 3))))
            arms.append((tuple(choices), self.some(scope, around, deep)))
        expression = self.expression(scope, "integer", 3)
        return ("case", expression, tuple(arms), self.some(scope, around, deep), PLACE)

    def block(self, scope, around, deep):
        inside = scope.inner()
        declarations = self.declarations(inside, around.level, around.room, self.rng.randint(0, 3))
        statements, handlers = self.body(inside, around, deep + 1, self.rng.randint(1, 3))
        return ("block", declarations, statements, handlers, PLACE)

    # Expressions

    def target(self, scope, kind, deep):
        rows = [row for row in scope.all("var") if row[1][1] == kind and row[1][2]]
        rows += [row for row in scope.all("array") if row[1][1] == kind]
        if not rows:
            return None
        name, meaning = self.rng.choice(rows)
        if meaning[0] == "var":
            return ("name", name, PLACE)
        return ("apply", name, (self.index(scope, meaning, deep - 1),), PLACE)

    def index(self, scope, meaning, deep):
        low, high = meaning[2:]
        if low >= 0 and self.rng.random() < 0.5:
            return ("number", self.rng.randint(low, high), PLACE)
        return self.expression(scope, "integer", deep)

    def expression(self, scope, kind, deep):
        if deep <= 1 or self.rng.random() < 0.25:
            return self.leaf(scope, kind)
        if self.rng.random() < 0.3:
            return self.apply(scope, kind, deep)
        if kind == "integer":
            if self.rng.random() < 0.2:
                return ("unary", self.rng.choice(("-", "abs")), self.expression(scope, kind, deep - 1), PLACE)
            return self.binary(scope, self.rng.choice(ARITHMETIC), "integer", deep)
        if self.rng.random() < 0.2:
            return ("unary", "not", self.expression(scope, kind, deep - 1), PLACE)
        if self.rng.random() < 0.5:
            return self.binary(scope, self.rng.choice(LOGIC), "boolean", deep)
        operands = "boolean" if self.rng.random() < 0.2 else "integer"
        relation = self.rng.choice(RELATIONS[:2] if operands == "boolean" else RELATIONS)
        return self.binary(scope, relation, operands, deep)

    def binary(self, scope, operator, kind, deep):
        left = self.expression(scope, kind, deep - 1)
        return ("binary", operator, left, self.expression(scope, kind, deep - 1), PLACE)

    def apply(self, scope, kind, deep):
        rows = [row for row in scope.all("array") if row[1][1] == kind]
        rows += [row for row in scope.all("function") if row[1][2] == kind]
        if not rows:
            return self.leaf(scope, kind)
        name, meaning = self.rng.choice(rows)
        if meaning[0] == "array":
            return ("apply", name, (self.index(scope, meaning, deep - 1),), PLACE)
        if meaning[1] == ():
            return ("name", name, PLACE)
        arguments = tuple(self.expression(scope, its_kind, deep - 1) for _, its_kind in meaning[1])
        return ("apply", name, arguments, PLACE)

    def leaf(self, scope, kind):
        names = [name for name, meaning in scope.all("var") if meaning[1] == kind]
        if names and self.rng.random() < 0.6:
            return ("name", self.rng.choice(names), PLACE)
        if kind == "boolean":
            return ("truth", self.rng.random() < 0.5, PLACE)
        marks = [name for name, meaning in scope.all("mark") if meaning[1] == "integer"]
        marks += [name for name, _ in scope.all("array", "arraymark")]
        if self.rng.random() < 0.15:
            return (self.rng.choice(("first", "last")), self.rng.choice(marks), PLACE)
        return ("number", self.rng.choice((0, 1, 2, 3, 4, 5, 7, 100, 2147483647)), PLACE)


class Around:
    """What is around a statement: its subprogram's level and result, its room for variables, loops and handlers."""

    def __init__(self, level, result, room, loop=False, handler=False):
        self.level = level
        self.result = result
        self.room = room
        self.loop = loop
        self.handler = handler

    def within(self, loop=False, handler=False):
        return Around(self.level, self.result, self.room, loop or self.loop, handler or self.handler)
