"""What several tests need."""

import itertools


def short_texts(alphabet, longest):
    for length in range(longest + 1):
        for signs in itertools.product(alphabet, repeat=length):
            yield "".join(signs)
