"""Earth hauled along a road's line, as cheaply as can be."""
