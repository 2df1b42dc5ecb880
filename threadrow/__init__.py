"""Embroidery: which rows of stitches touch. The calls stand in threadrow.desk."""
