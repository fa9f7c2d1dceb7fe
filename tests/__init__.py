"""The tests of relayleases."""
