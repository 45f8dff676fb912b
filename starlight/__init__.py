"""Middles, sizes and brightnesses of stars in a frame of counts, by whole numbers alone."""
