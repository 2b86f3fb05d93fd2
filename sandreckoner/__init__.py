"""Sandreckoner: whole numbers too great to be written."""
