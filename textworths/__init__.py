"""Textworths: numbers of texts by finite machines."""
