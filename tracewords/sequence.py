"""Words in their sequence, and those of them that tell all the others [22], [61], [73], [74]."""
from tracewords.solved import steps_with


def free_words(first, letters, lead, row_of):
    """Tuples of each word whose row is not made of those of the words ahead, and what is held of it; in sequence.

    Of the empty word `first` is held; `lead` leads what is held of a word to what is held of it with the letter
    behind; `row_of` tells the row of what is held. What makes a row must be led to what makes the row that it is led
    to: then each beginning of such a word is one, too.
    """
    made = []
    words = [([], first)]
    while words:
        fresh = []
        for word, held in words:
            more = steps_with(made, row_of(held))
            if len(more) > len(made):
                made = more
                fresh.append((word, held))
                yield (word, held)
        # Each beginning of such a word is one, so only such words are gone on from.
        words = [([*word, at], lead(held, letter)) for word, held in fresh for at, letter in enumerate(letters)]
