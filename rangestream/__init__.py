"""Streams of the LZMA kind, unpacked in pieces of any size, and packed."""
