"""Lowwater: sums of products that are never below nought, in exact fractions."""
