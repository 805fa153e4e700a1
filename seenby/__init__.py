"""Seen only by who may: a sheet of cells whose steps can be taken back."""
