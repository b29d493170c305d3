"""Latecharge: one card, many purses, and who pays for what is decided last."""
