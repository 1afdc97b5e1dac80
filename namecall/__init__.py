"""Namecall: terms of names, forms and calls, and the steps that can be done in them."""
