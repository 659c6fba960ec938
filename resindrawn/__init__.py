"""Resin drawn in: when the cells of a row are wet, where air is shut in, what is good before it sets, how to mix it."""
