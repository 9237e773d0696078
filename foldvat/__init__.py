"""Foldvat: strips folded on one another, dipped a few layers deep, and opened again."""
