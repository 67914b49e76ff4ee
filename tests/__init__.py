"""The tests of skyframes."""
