"""Fair shares of a net's lines, told to the sources so that no line ever carries too much."""
