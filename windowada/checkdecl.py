"""The rules for declarations, for subprograms and for the statements that contain other statements."""

from windowada.checkexpr import check_kind
from windowada.checkstat import check_simple, find_exception
from windowada.context import Context
from windowada.errors import BadRange, DuplicateName, Misplaced, TooLarge, WrongKind, WrongMode
from windowada.kinds import BOOLEAN, INTEGER
from windowada.meanings import Mark
from windowada.words import MAX, MIN

MOST_PARAMETERS = 6
MOST_ELEMENTS = 40
MOST_CHOICES = 10


def check(tree):
    """Returns the checked program of a tree."""
    context = Context()
    # The name of the main program is visible nowhere, so it is not declared.
    _check_parts(context, context.new_subprogram(tree[-1], (), None), tree)
    return context.checked_program()


def _check_subprogram(context, declaration):
    """Checks the declaration of a procedure or function."""
    form, name, parameters = declaration[:3]
    place = declaration[-1]
    if len(parameters) > MOST_PARAMETERS:
        raise TooLarge("a subprogram has too many parameters", place)
    modes_and_marks = []
    for _, mode, mark, at in parameters:
        if form == "function" and mode != "in":
            raise WrongMode("a function changes no parameters", at)
        modes_and_marks.append((mode, _find_scalar(context, mark, at)))
    result = None
    if form == "function":
        result = _find_scalar(context, declaration[3], place)
    subprogram = context.new_subprogram(place, tuple(modes_and_marks), result)
    context.declare(name, subprogram, place)
    _check_parts(context, subprogram, declaration)


def _check_parts(context, subprogram, declaration):
    """Checks what is in the region of a subprogram."""
    context.begin(subprogram)
    for (mode, mark), (name, _, _, place) in zip(subprogram.parameters, declaration[2]):
        context.declare_variable(name, mark, mode != "in", place)
    declarations, statements, handlers = declaration[-4:-1]
    checked_declarations = _check_declarations(context, declarations)
    checked_statements, checked_handlers = _check_body(context, statements, handlers)
    subprogram.set_parts(checked_declarations, checked_statements, checked_handlers)
    context.finish()


def _check_declarations(context, declarations):
    """Returns the checked forms of those declarations that do something."""
    checked = []
    for declaration in declarations:
        match declaration:
            case ("variable", name, mark, expression, place):
                checked.append(_check_variable(context, name, mark, expression, place))
            case ("constant", name, mark, expression, place):
                checked.append(_check_constant(context, name, mark, expression, place))
            case ("subtype", name, mark, low, high, place):
                context.declare(name, _check_subtype(context, mark, low, high, place), place)
            case ("array", name, low, high, mark, place):
                context.declare(name, _check_array(context, low, high, mark, place), place)
            case ("exception", name, place):
                context.declare_exception(name, place)
            case _:
                _check_subprogram(context, declaration)
    return tuple(checked)


def _check_variable(context, name, mark, expression, place):
    """Returns the checked form of the declaration of a variable."""
    meaning = _find_mark(context, mark, place)
    if expression is None:
        return (context.declare_variable(name, meaning, True, place), None)
    if meaning.is_array():
        raise WrongKind("an array has no value to start with", place)
    # The name is not visible before the end of its declaration.
    checked = check_kind(context, expression, meaning.kind)
    return (context.declare_variable(name, meaning, True, place), checked)


def _check_constant(context, name, mark, expression, place):
    """Returns the checked form of the declaration of a constant."""
    meaning = _find_scalar(context, mark, place)
    checked = check_kind(context, expression, meaning.kind)
    return (context.declare_variable(name, meaning, False, place), checked)


def _check_subtype(context, mark, low, high, place):
    """Returns the meaning of a subtype."""
    meaning = _find_scalar(context, mark, place)
    if meaning.kind != INTEGER:
        raise WrongKind("only an integer has subtypes", place)
    if low > high or low < meaning.low or high > meaning.high:
        raise BadRange("the bounds of a subtype are wrong", place)
    return Mark(INTEGER, low, high)


def _check_array(context, low, high, mark, place):
    """Returns the meaning of the name of an array mark."""
    meaning = _find_scalar(context, mark, place)
    if low > high:
        raise BadRange("the bounds of an array are the wrong way round", place)
    array = Mark(meaning.kind, meaning.low, meaning.high, low, high)
    if array.size() > MOST_ELEMENTS:
        raise TooLarge("an array has too many elements", place)
    return array


def _find_mark(context, mark, place):
    """Returns the meaning of a mark."""
    meaning = context.find(mark, place)
    if not isinstance(meaning, Mark):
        raise WrongKind(f"{mark} is no mark", place)
    return meaning


def _find_scalar(context, mark, place):
    """Returns the meaning of a mark that must not be an array."""
    meaning = _find_mark(context, mark, place)
    if meaning.is_array():
        raise WrongKind(f"{mark} is an array", place)
    return meaning


def _check_body(context, statements, handlers):
    """Returns the checked forms of the statements and of the handlers of a body."""
    return _check_statements(context, statements), _check_handlers(context, handlers)


def _check_handlers(context, handlers):
    """Returns the checked forms of the handlers of a body."""
    checked = []
    handled = {}
    for names, statements, place in handlers:
        numbers = None
        if names is not None:
            numbers = tuple([find_exception(context, name, place) for name in names])
            for number in numbers:
                if number in handled:
                    raise DuplicateName("the exception is handled already", place)
                handled[number] = True
        elif len(checked) + 1 != len(handlers):
            raise Misplaced("others is not the last handler", place)
        checked.append((numbers, _check_handled(context, statements)))
    return tuple(checked)


def _check_handled(context, statements):
    """Returns the checked forms of the statements of a handler."""
    context.enter_handler()
    checked = _check_statements(context, statements)
    context.leave_handler()
    return checked


def _check_statements(context, statements):
    """Returns the checked forms of statements."""
    checked = []
    for statement in statements:
        action = COMPOUND.get(statement[0])
        if action is None:
            checked.append(check_simple(context, statement))
        else:
            checked.append(action(context, statement))
    return tuple(checked)


def _check_if(context, statement):
    """Returns the checked form of an if statement."""
    _, branches, otherwise, _ = statement
    checked = []
    for condition, statements in branches:
        checked.append((check_kind(context, condition, BOOLEAN), _check_statements(context, statements)))
    return ("if", tuple(checked), _check_statements(context, otherwise))


def _check_turns(context, statements):
    """Returns the checked forms of the statements of a loop."""
    context.enter_loop()
    checked = _check_statements(context, statements)
    context.leave_loop()
    return checked


def _check_while(context, statement):
    """Returns the checked form of a while loop."""
    _, condition, statements, _ = statement
    return ("while", check_kind(context, condition, BOOLEAN), _check_turns(context, statements))


def _check_loop(context, statement):
    """Returns the checked form of a plain loop."""
    return ("loop", _check_turns(context, statement[1]))


def _check_for(context, statement):
    """Returns the checked form of a for loop."""
    _, name, backward, low, high, statements, place = statement
    # The loop name is not visible in the bounds.
    checked_low = check_kind(context, low, INTEGER)
    checked_high = check_kind(context, high, INTEGER)
    context.enter()
    number = context.declare_variable(name, Mark(INTEGER, MIN, MAX), False, place)
    checked = _check_turns(context, statements)
    context.leave()
    return ("for", number, backward, checked_low, checked_high, checked)


def _check_case(context, statement):
    """Returns the checked form of a case statement."""
    _, expression, arms, otherwise, place = statement
    checked_expression = check_kind(context, expression, INTEGER)
    checked = []
    for choices, statements in arms:
        _check_choices(choices, place)
        checked.append((choices, _check_statements(context, statements)))
    return ("case", checked_expression, tuple(checked), _check_statements(context, otherwise))


def _check_choices(choices, place):
    """Looks at the choices of one arm of a case statement."""
    if len(choices) > MOST_CHOICES:
        raise TooLarge("an arm has too many choices", place)
    for low, high in choices:
        if low > high:
            raise BadRange("the bounds of a choice are the wrong way round", place)


def _check_block(context, statement):
    """Returns the checked form of a block."""
    _, declarations, statements, handlers, _ = statement
    context.enter()
    checked_declarations = _check_declarations(context, declarations)
    checked_statements, checked_handlers = _check_body(context, statements, handlers)
    context.leave()
    return ("block", checked_declarations, checked_statements, checked_handlers)


COMPOUND = {
    "if": _check_if, "while": _check_while, "loop": _check_loop, "for": _check_for, "case": _check_case,
    "block": _check_block,
}
