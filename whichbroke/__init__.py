"""Whichbroke: which parts of a work can have broken."""
