"""The tests of whichbroke."""
