"""Cells written and read: code of up to 16 rows, told row by row and looked at."""
