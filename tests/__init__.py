"""The tests of readaloud."""
