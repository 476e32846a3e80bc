"""The tests of arrowtrios."""
