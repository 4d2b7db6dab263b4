"""Carvebed: stuff carved by cutters, plainly and by spans."""
