"""Images: the words for the processor, with their tables."""


class Image:
    """The words of a program.

    starts has the first address of each unit, places the number of the place for addresses that can raise, and
    regions the tuples (start, stop, entry). names and positions are the exceptions and the places by number, and
    memory is the count of memory words of a run.
    """

    def __init__(self, words, starts, places, regions, names, positions, memory):
        self.words = words
        self.starts = starts
        self.places = places
        self.regions = regions
        self.names = names
        self.positions = positions
        self.memory = memory

    def region_entry(self, address):
        """Returns the entry of the first region that holds an address, -1 if there is none."""
        for start, stop, entry in self.regions:
            if start <= address < stop:
                return entry
        return -1
