"""The errors of the program's own: none is needed so far, for bands and tables refuse nothing."""
