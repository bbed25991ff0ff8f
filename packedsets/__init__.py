"""Sets of 32-bit numbers in the portable form of Roaring bitmaps."""
