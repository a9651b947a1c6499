"""Keepheap: objects that are kept by what names them."""
