"""The tests of the program; README.md says how to run them."""
