"""Sessions of objects over tables."""
