"""Out of step: at which ages men of one generation come in, generation by generation."""
