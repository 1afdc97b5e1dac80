"""Namecall: terms of names, forms and calls, the steps that can be done in them, and lines."""
