"""Programs and expressions as text."""

from windowada.expressions import GROUPS, UNARY_GROUP

LOGIC_GROUP = 0
RELATION_GROUP = 1


def show_expression(expression):
    """Returns the text of an expression."""
    match expression:
        case ("number", number, _):
            return str(number)
        case ("truth", value, _):
            return "true" if value else "false"
        case ("name", name, _):
            return name
        case ("apply", name, arguments, _):
            return f"{name}({_show_all(arguments)})"
        case ("unary", operator, operand, _):
            return _show_unary(operator, operand)
        case ("binary", operator, left, right, _):
            return _show_binary(operator, left, right)
    return f"{expression[1]}'{expression[0]}"


def show(tree, *, indent=3):
    """Returns the text of a program."""
    return "\n".join([" " * (indent * steps) + text for steps, text in _subprogram_lines(tree, 0)])


def _show_all(expressions):
    """Returns the texts of some expressions with commas between them."""
    return ", ".join([show_expression(expression) for expression in expressions])


def _show_unary(operator, operand):
    """Returns the text of an operator with one operand."""
    text = show_expression(operand)
    if _group_of(operand) < UNARY_GROUP:
        text = f"({text})"
    # Two hyphens side by side would begin a comment.
    if operator == "-" and not text.startswith("-"):
        return "-" + text
    return f"{operator} {text}"


def _show_binary(operator, left, right):
    """Returns the text of an operator with two operands."""
    first = show_expression(left)
    second = show_expression(right)
    if not _may_stand_left(operator, left):
        first = f"({first})"
    if _group_of(right) <= GROUPS[operator]:
        second = f"({second})"
    return f"{first} {operator} {second}"


def _may_stand_left(operator, left):
    """Returns True if an expression needs no brackets as the left operand of an operator."""
    group = GROUPS[operator]
    if _group_of(left) != group:
        return _group_of(left) > group
    if group == LOGIC_GROUP:
        return left[1] == operator
    return group != RELATION_GROUP


def _group_of(expression):
    """Returns the group of an operator with two operands; other expressions bind closer than all of these."""
    return GROUPS[expression[1]] if expression[0] == "binary" else UNARY_GROUP


# The following functions return the lines of a form as pairs (steps of the margin, text).


def _subprogram_lines(declaration, steps):
    """Returns the lines of a subprogram."""
    form, name, parameters = declaration[:3]
    head = f"{form} {name}"
    if parameters != ():
        head += " (" + "; ".join([_show_parameter(parameter) for parameter in parameters]) + ")"
    if form == "function":
        head += f" return {declaration[3]}"
    declarations, statements, handlers = declaration[-4:-1]
    return [
        (steps, f"{head} is"),
        *_declarations_lines(declarations, steps + 1),
        *_body_lines(statements, handlers, steps),
        (steps, f"end {name};"),
    ]


def _show_parameter(parameter):
    """Returns the text of a parameter."""
    name, mode, mark, _ = parameter
    if mode == "in":
        return f"{name} : {mark}"
    return f"{name} : {mode} {mark}"


def _body_lines(statements, handlers, steps):
    """Returns the lines of a body without its end."""
    lines = [(steps, "begin")]
    lines.extend(_statements_lines(statements, steps + 1))
    if handlers != ():
        lines.append((steps, "exception"))
    for names, handled, _ in handlers:
        choices = "others" if names is None else " | ".join(names)
        lines.append((steps + 1, f"when {choices} =>"))
        lines.extend(_statements_lines(handled, steps + 2))
    return lines


def _declarations_lines(declarations, steps):
    """Returns the lines of declarations."""
    lines = []
    for declaration in declarations:
        if declaration[0] in ("procedure", "function"):
            lines.extend(_subprogram_lines(declaration, steps))
        else:
            lines.append((steps, _show_declaration(declaration)))
    return lines


def _show_declaration(declaration):
    """Returns the text of a declaration of one line."""
    match declaration:
        case ("variable", name, mark, None, _):
            return f"{name} : {mark};"
        case ("variable", name, mark, expression, _):
            return f"{name} : {mark} := {show_expression(expression)};"
        case ("constant", name, mark, expression, _):
            return f"{name} : constant {mark} := {show_expression(expression)};"
        case ("subtype", name, mark, low, high, _):
            return f"subtype {name} is {mark} range {low} .. {high};"
        case ("array", name, low, high, mark, _):
            return f"type {name} is array ({low} .. {high}) of {mark};"
    return f"{declaration[1]} : exception;"


def _statements_lines(statements, steps):
    """Returns the lines of statements."""
    lines = []
    for statement in statements:
        action = COMPOUND.get(statement[0])
        if action is None:
            lines.append((steps, _show_simple(statement)))
        else:
            lines.extend(action(statement, steps))
    return lines


def _show_simple(statement):
    """Returns the text of a statement that contains no other statements."""
    match statement:
        case ("assign", target, expression, _):
            return f"{show_expression(target)} := {show_expression(expression)};"
        case ("put", expression, _):
            return f"put({show_expression(expression)});"
        case ("get", target, _):
            return f"get({show_expression(target)});"
        case ("call", name, arguments, _):
            return f"{name};" if arguments == () else f"{name}({_show_all(arguments)});"
        case ("exit", condition, _):
            return "exit;" if condition is None else f"exit when {show_expression(condition)};"
        case ("return", result, _):
            return "return;" if result is None else f"return {show_expression(result)};"
        case ("raise", name, _):
            return "raise;" if name is None else f"raise {name};"
    return "null;"


def _if_lines(statement, steps):
    """Returns the lines of an if statement."""
    _, branches, otherwise, _ = statement
    lines = []
    word = "if"
    for condition, statements in branches:
        lines.append((steps, f"{word} {show_expression(condition)} then"))
        lines.extend(_statements_lines(statements, steps + 1))
        word = "elsif"
    if otherwise != ():
        lines.append((steps, "else"))
        lines.extend(_statements_lines(otherwise, steps + 1))
    lines.append((steps, "end if;"))
    return lines


def _loop_lines(statement, steps):
    """Returns the lines of a loop."""
    statements = statement[-2]
    return [
        (steps, _show_loop_head(statement)),
        *_statements_lines(statements, steps + 1),
        (steps, "end loop;"),
    ]


def _show_loop_head(statement):
    """Returns the text of the first line of a loop."""
    match statement:
        case ("while", condition, _, _):
            return f"while {show_expression(condition)} loop"
        case ("for", name, backward, low, high, _, _):
            word = "in reverse" if backward else "in"
            return f"for {name} {word} {show_expression(low)} .. {show_expression(high)} loop"
    return "loop"


def _case_lines(statement, steps):
    """Returns the lines of a case statement."""
    _, expression, arms, otherwise, _ = statement
    lines = [(steps, f"case {show_expression(expression)} is")]
    for choices, statements in arms:
        shown = " | ".join([_show_choice(low, high) for low, high in choices])
        lines.append((steps + 1, f"when {shown} =>"))
        lines.extend(_statements_lines(statements, steps + 2))
    lines.append((steps + 1, "when others =>"))
    lines.extend(_statements_lines(otherwise, steps + 2))
    lines.append((steps, "end case;"))
    return lines


def _show_choice(low, high):
    """Returns the text of a choice."""
    return str(low) if low == high else f"{low} .. {high}"


def _block_lines(statement, steps):
    """Returns the lines of a block."""
    _, declarations, statements, handlers, _ = statement
    lines = []
    if declarations != ():
        lines.append((steps, "declare"))
        lines.extend(_declarations_lines(declarations, steps + 1))
    lines.extend(_body_lines(statements, handlers, steps))
    lines.append((steps, "end;"))
    return lines


COMPOUND = {
    "if": _if_lines, "while": _loop_lines, "loop": _loop_lines, "for": _loop_lines,
    "case": _case_lines, "block": _block_lines,
}
