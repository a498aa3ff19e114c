"""Strokes: a brush is put down on a page, led from cell to cell, and lifted or given up."""
