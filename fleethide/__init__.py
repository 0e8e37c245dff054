"""Fleethide: ships hidden on a sheet, sought by shots."""
