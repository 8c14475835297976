"""Merging latches that are always equal, complementary or constant."""
