"""Rowpack: rows of whole numbers written short."""
