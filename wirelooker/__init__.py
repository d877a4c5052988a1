"""Wirelooker: lines caught on wishes, words read on them, and the lines made again."""
