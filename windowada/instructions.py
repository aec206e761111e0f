"""The instructions of the processor: their names, their forms and their fields."""

NAMES = (
    "halt", "add", "sub", "mul", "div", "mod", "rem", "less", "equal", "high", "low", "load", "store", "jump",
    "branch", "call", "save", "restore", "back", "raise", "again", "tick", "put", "get", "below", "above", "bar",
    "setbar", "retry",
)

# The fields behind the name of each instruction. "source" is the field of an operand s; FIELDS has all others.
FORMS = {
    "halt": (), "add": ("d", "a", "source"), "sub": ("d", "a", "source"), "mul": ("d", "a", "source"),
    "div": ("d", "a", "source"), "mod": ("d", "a", "source"), "rem": ("d", "a", "source"),
    "less": ("d", "a", "source"), "equal": ("d", "a", "source"), "high": ("d", "far"), "low": ("d", "a", "part"),
    "load": ("d", "a", "source"), "store": ("d", "a", "source"), "jump": ("distance",), "branch": ("d", "far"),
    "call": ("number",), "save": ("d", "a", "source"), "restore": (), "back": (), "raise": ("number",),
    "again": ("a", "source"), "tick": (), "put": ("source",), "get": ("d",), "below": ("a", "source"),
    "above": ("a", "source"), "bar": ("d",), "setbar": ("source",), "retry": (),
}

# For each field the position of its lowest bit, the count of its bits, and its least and its greatest number.
FIELDS = {
    "d": (21, 5, 0, 31), "a": (16, 5, 0, 31), "reg": (0, 15, 0, 31), "int": (0, 15, -16384, 16383),
    "part": (0, 15, 0, 2047), "far": (0, 21, -1048576, 1048575), "distance": (0, 26, -33554432, 33554431),
    "number": (0, 26, 0, 67108863),
}

# The position of the name, and the bit that tells that the operand is a number.
NAME_SHIFT = 26
FLAG = 32768
