"""Embroidery: which rows of stitches touch, and which shapes must come before which.

The calls stand in threadrow.desk.
"""
