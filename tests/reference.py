"""A second way to run a tree, straight from the points on the meaning, to compare the package with.

It knows no numbers of variables and no static links: the names that are visible are a dict that is copied whenever
a name is added, and a subprogram keeps the dict that it was declared with.
"""

LOWEST, HIGHEST = -2147483648, 2147483647
PREDEFINED = ("constraint_error", "program_error", "storage_error", "end_error")


class Trouble(Exception):
    """An exception of the program: what it is, a list with its name, and its place."""

    def __init__(self, what, place):
        super().__init__(what, place)
        self.what = what
        self.place = place


class Empty(Exception):
    """No fuel is left."""


class Leave(Exception):
    """The innermost loop is left."""


class Finish(Exception):
    """The activation ends."""

    def __init__(self, value):
        super().__init__(value)
        self.value = value


class Cell:
    """A place for a value, with the bounds of its range."""

    def __init__(self, low, high, value=None):
        self.low = low
        self.high = high
        self.value = value if value is not None else (0 if low <= 0 <= high else low)


class Row:
    """An array."""

    def __init__(self, first, last, low, high):
        self.first = first
        self.last = last
        self.cells = [Cell(low, high) for _ in range(first, last + 1)]


class Routine:
    """A subprogram with the names that are visible behind its parameter list and result mark."""

    def __init__(self, tree, marks, result):
        self.tree = tree
        self.marks = marks
        self.result = result
        self.names = None


def run_reference(tree, inputs, fuel):
    """Returns the events and the ending."""
    return Reference(inputs, fuel).run(tree)


class Reference:
    """One run."""

    def __init__(self, inputs, fuel):
        self.inputs = list(inputs)
        self.fuel = fuel
        self.events = []
        self.predefined = {name: [name] for name in PREDEFINED}

    def run(self, tree):
        names = {"integer": ("mark", LOWEST, HIGHEST), "boolean": ("mark", 0, 1), **self.predefined}
        routine = Routine(tree, (), None)
        routine.names = names
        try:
            self.activate(routine, [], 1)
            ending = ("normal",)
        except Empty:
            ending = ("exhausted",)
        except Trouble as trouble:
            ending = ("raised", trouble.what[0], *trouble.place)
        return tuple(self.events), ending

    def tick(self):
        if self.fuel == 0:
            raise Empty
        self.fuel -= 1

    def fail(self, name, place):
        raise Trouble(self.predefined[name], place)

    def checked(self, value, low, high, place):
        if not low <= value <= high:
            self.fail("constraint_error", place)
        return value

    # Subprograms

    def activate(self, routine, cells, depth):
        """Returns the result of a function."""
        self.tick()
        names = dict(routine.names)
        for parameter, cell in zip(routine.tree[2], cells):
            names[parameter[0]] = cell
        declarations, statements, handlers, place = routine.tree[-4:]
        here = (depth, routine.result, None)
        try:
            names = self.declare(names, declarations, here)
            self.body(names, statements, handlers, here)
        except Finish as finish:
            return finish.value
        if routine.result is not None:
            self.fail("program_error", place)
        return None

    def call(self, names, name, arguments, place, here):
        routine = names[name]
        cells = []
        back = []
        for parameter, (_, low, high), argument in zip(routine.tree[2], routine.marks, arguments):
            if parameter[1] == "in":
                value = self.checked(self.value(names, argument, here), low, high, argument[-1])
                cells.append(Cell(low, high, value))
                continue
            target = self.target(names, argument, here)
            cell = Cell(low, high)
            if parameter[1] == "in out":
                cell.value = self.checked(target.value, low, high, argument[-1])
            cells.append(cell)
            back.append((cell, target, argument[-1]))
        if here[0] == 10:
            self.fail("storage_error", place)
        result = self.activate(routine, cells, here[0] + 1)
        for cell, target, at in back:
            target.value = self.checked(cell.value, target.low, target.high, at)
        return result

    def body(self, names, statements, handlers, here):
        try:
            self.statements(names, statements, here)
            return
        except Trouble as trouble:
            caught = trouble
        for choices, handled, _ in handlers:
            if choices is None or any(names[choice] is caught.what for choice in choices):
                self.statements(names, handled, (here[0], here[1], caught))
                return
        raise caught

    def declare(self, names, declarations, here):
        """Returns the names with those of the declarations."""
        for declaration in declarations:
            names = {**names, declaration[1]: self.meaning(names, declaration, here)}
            if declaration[0] in ("procedure", "function"):
                names[declaration[1]].names = names
        return names

    def meaning(self, names, declaration, here):
        form = declaration[0]
        if form in ("variable", "constant"):
            _, _, mark, expression, _ = declaration
            if names[mark][0] == "array":
                return Row(*names[mark][1:])
            _, low, high = names[mark]
            if expression is None:
                return Cell(low, high)
            return Cell(low, high, self.checked(self.value(names, expression, here), low, high, expression[-1]))
        if form == "subtype":
            return ("mark", declaration[3], declaration[4])
        if form == "array":
            return ("array", declaration[2], declaration[3], *names[declaration[4]][1:])
        if form == "exception":
            return [declaration[1]]
        marks = [names[mark] for _, _, mark, _ in declaration[2]]
        return Routine(declaration, marks, names[declaration[3]] if form == "function" else None)

    # Statements; here is the depth of the activation, the mark of its result and what a handler caught.

    def statements(self, names, statements, here):
        for statement in statements:
            self.tick()
            getattr(self, "do_" + statement[0])(names, statement, here)

    def do_null(self, names, statement, here):
        pass

    def do_assign(self, names, statement, here):
        _, target, expression, _ = statement
        cell = self.target(names, target, here)
        value = self.value(names, expression, here)
        cell.value = self.checked(value, cell.low, cell.high, expression[-1])

    def do_put(self, names, statement, here):
        self.events.append(("put", self.value(names, statement[1], here)))

    def do_get(self, names, statement, here):
        cell = self.target(names, statement[1], here)
        if not self.inputs:
            self.fail("end_error", statement[-1])
        value = self.inputs.pop(0)
        self.events.append(("get", value))
        cell.value = self.checked(value, cell.low, cell.high, statement[1][-1])

    def do_call(self, names, statement, here):
        self.call(names, *statement[1:], here)

    def do_if(self, names, statement, here):
        for condition, statements in statement[1]:
            if self.value(names, condition, here):
                return self.statements(names, statements, here)
        return self.statements(names, statement[2], here)

    def turns(self, turns, names, statements, here):
        try:
            for turn in turns:
                self.tick()
                self.statements({**names, **turn}, statements, here)
        except Leave:
            pass

    def do_while(self, names, statement, here):
        def turns():
            while self.value(names, statement[1], here):
                yield {}
        self.turns(turns(), names, statement[2], here)

    def do_loop(self, names, statement, here):
        self.turns(iter(dict, None), names, statement[1], here)

    def do_for(self, names, statement, here):
        _, name, backward, low, high, statements, _ = statement
        first = self.value(names, low, here)
        last = self.value(names, high, here)
        values = range(first, last + 1)
        if backward:
            values = values[::-1]
        self.turns(({name: Cell(LOWEST, HIGHEST, value)} for value in values), names, statements, here)

    def do_case(self, names, statement, here):
        _, expression, arms, otherwise, _ = statement
        value = self.value(names, expression, here)
        for choices, statements in arms:
            for low, high in choices:
                if low <= value <= high:
                    return self.statements(names, statements, here)
        return self.statements(names, otherwise, here)

    def do_exit(self, names, statement, here):
        if statement[1] is None or self.value(names, statement[1], here):
            raise Leave

    def do_return(self, names, statement, here):
        if statement[1] is None:
            raise Finish(None)
        _, low, high = here[1]
        raise Finish(self.checked(self.value(names, statement[1], here), low, high, statement[1][-1]))

    def do_raise(self, names, statement, here):
        if statement[1] is None:
            raise Trouble(here[2].what, here[2].place)
        raise Trouble(names[statement[1]], statement[-1])

    def do_block(self, names, statement, here):
        _, declarations, statements, handlers, _ = statement
        self.body(self.declare(names, declarations, here), statements, handlers, here)

    # Expressions

    def target(self, names, target, here):
        meaning = names[target[1]]
        if target[0] == "name":
            return meaning
        index = self.value(names, target[2][0], here)
        self.checked(index, meaning.first, meaning.last, target[2][0][-1])
        return meaning.cells[index - meaning.first]

    def value(self, names, expression, here):
        form = expression[0]
        if form in ("number", "truth"):
            return int(expression[1])
        if form in ("first", "last"):
            return self.end(names[expression[1]], form)
        if form == "unary":
            operand = self.value(names, expression[2], here)
            result = {"-": -operand, "abs": abs(operand), "not": 1 - operand}[expression[1]]
            return self.checked(result, LOWEST, HIGHEST, expression[-1])
        if form == "binary":
            return self.operator(names, expression, here)
        meaning = names[expression[1]]
        if isinstance(meaning, Routine):
            arguments = expression[2] if form == "apply" else ()
            return self.call(names, expression[1], arguments, expression[-1], here)
        return self.target(names, expression, here).value

    def end(self, meaning, form):
        if isinstance(meaning, Row):
            return meaning.first if form == "first" else meaning.last
        return meaning[1] if form == "first" else meaning[2]

    def operator(self, names, expression, here):
        _, operator, left, right, place = expression
        a = self.value(names, left, here)
        if operator == "and then":
            return a and self.value(names, right, here)
        if operator == "or else":
            return a or self.value(names, right, here)
        b = self.value(names, right, here)
        if operator in ("/", "mod", "rem"):
            if b == 0:
                self.fail("constraint_error", place)
            quotient = abs(a) // abs(b) * (1 if a * b >= 0 else -1)
            remainder = a - b * quotient
            if operator == "/":
                return self.checked(quotient, LOWEST, HIGHEST, place)
            if operator == "mod" and remainder != 0 and (remainder < 0) != (b < 0):
                return remainder + b
            return remainder
        results = {
            "+": a + b, "-": a - b, "*": a * b, "=": a == b, "/=": a != b, "<": a < b, "<=": a <= b,
            ">": a > b, ">=": a >= b, "and": a and b, "or": a or b, "xor": a != b,
        }
        return self.checked(int(results[operator]), LOWEST, HIGHEST, place)
