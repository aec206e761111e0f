"""The whole way from a text to the result of its run on the processor."""

from windowada.build import build
from windowada.processor import Processor


def run_text(text, inputs, *, fuel, windows):
    """Returns the events and the ending of the run of a text."""
    result, _ = run_counts(text, inputs, fuel=fuel, windows=windows)
    return result


def run_counts(text, inputs, *, fuel, windows):
    """Returns the events and the ending of the run of a text, and its spills, fills and greatest depth."""
    image = build(text)
    processor = Processor(image, windows=windows)
    # So many steps are always enough: between two ticks each word is done at most once in each activation.
    steps = 60 * (len(image.words) + 60) * (fuel + 2)
    result = processor.run(inputs, fuel=fuel, steps=steps)
    return result, processor.counts
