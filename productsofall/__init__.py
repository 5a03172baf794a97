"""Products of all: how often a prime divides all numbers up to one, multiplied."""
