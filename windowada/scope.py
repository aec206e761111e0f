"""The open regions of a program and the names declared in them."""

from windowada.errors import DuplicateName, UnknownName


class Scopes:
    """The open regions, each inside of the one before, with the meanings of their names."""

    def __init__(self):
        self._regions = []

    def enter(self):
        """Opens an empty region inside of the innermost one."""
        self._regions.append({})

    def leave(self):
        """Closes the innermost region and forgets its names."""
        self._regions.pop()

    def declare(self, name, meaning, place):
        """Adds a name to the innermost region."""
        if name in self._regions[-1]:
            raise DuplicateName(f"{name} is declared already", place)
        self._regions[-1][name] = meaning

    def lookup(self, name, place):
        """Returns the meaning of a name in the innermost region that has it."""
        for region in self._regions[::-1]:
            if name in region:
                return region[name]
        raise UnknownName(f"{name} is not declared", place)

    def __contains__(self, name):
        return any([name in region for region in self._regions])

    @property
    def open_regions(self):
        """The number of open regions."""
        return len(self._regions)
