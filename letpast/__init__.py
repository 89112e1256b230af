"""Letpast: blocks rearranged where they lie."""
