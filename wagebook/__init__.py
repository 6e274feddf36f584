"""Wagebook: pay by hours and bands, dues, and corrections back in time."""
