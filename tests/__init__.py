"""The tests of lenstree."""
