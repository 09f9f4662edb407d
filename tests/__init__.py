"""The tests of quietsmith."""
