"""Bodyforbody: for which counts a loop may have another body."""
