"""What the processor's registers are for."""

# Where an entry finds the exception: its number and the number of its place.
NUMBER = 5
PLACE = 6

FIRST_OUT = 8
FIRST_LOCAL = 16
FIRST_IN = 24

# The stack pointer of an activation, and the address of the call that it makes.
STACK = 14
CALLED = 15

# How many registers of a window are saved: all from the first local on. They stand from the stack pointer on.
SAVED = 16
