"""Lines made from a stock of words, that scan by a measure."""
