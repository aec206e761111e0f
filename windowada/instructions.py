"""The names of the processor's instructions."""

NAMES = (
    "halt", "add", "sub", "mul", "div", "mod", "rem", "less", "equal", "high", "low", "load", "store", "jump",
    "branch", "call", "save", "restore", "back", "raise", "again", "tick", "put", "get", "below", "above", "bar",
    "setbar", "retry",
)
