"""Keys sealed by lattices."""
