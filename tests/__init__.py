"""The tests of fivehues."""
