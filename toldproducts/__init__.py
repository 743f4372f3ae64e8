"""Toldproducts: rows multiplied by any table."""
