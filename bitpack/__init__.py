"""Bitpack: records packed into bits by told widths."""
