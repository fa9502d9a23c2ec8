"""A quilt, from words to the last seam."""
