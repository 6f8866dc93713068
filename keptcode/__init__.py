"""Keptcode: change a prefix code while all other codewords stay."""
