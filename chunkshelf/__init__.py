"""Chunkshelf: versions of texts in pieces, each kept once."""
