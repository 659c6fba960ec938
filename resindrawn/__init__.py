"""Resin drawn in: when the cells of a row are wet, from which inlet, and where air is shut in."""
