"""A crossword setter's lattices, and words put into them."""
