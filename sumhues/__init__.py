"""Numbers in hues without a sum in one hue."""
