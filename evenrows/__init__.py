"""Evenrows: turns that are even whatever smooth worths the places have."""
