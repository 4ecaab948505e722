"""Sideweave: the sides of branches woven into the fewest issued rows."""
