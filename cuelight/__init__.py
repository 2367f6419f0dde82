"""Cuelight: lines with switches and limits that keep places lit."""
