"""Letters: fonts, what's read which way, and how dark each pixel is."""
