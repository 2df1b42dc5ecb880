"""Embroidery: which rows of stitches touch, which shapes must come before which, and in which order to make them.

The calls stand in threadrow.desk.
"""
