"""Crosstable: tables of whole numbers, brought to one diagonal."""
