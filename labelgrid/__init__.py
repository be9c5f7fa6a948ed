"""Labelgrid: a spreadsheet of many users with labels on every cell."""
