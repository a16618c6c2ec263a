"""The tests of the package, for `python3 -m unittest`."""
