"""The k-th of all the numbers that stations far from each other hold."""
