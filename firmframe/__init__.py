"""A frame that stands firm: walls of squares, braced by bars and by ties."""
