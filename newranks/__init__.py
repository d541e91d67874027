"""New ranks: how near a new list of ranks is to what all wrestlers have earned."""
