"""Letterheld: things held by one of many offices that only write letters."""
