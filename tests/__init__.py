"""The tests of the program: python3 -m unittest discover -s tests -t ."""
