"""patchhall, layer b: tops that are sewn by straight seams."""
