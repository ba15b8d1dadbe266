"""Unseenfolds: what can still be made when values are lost and only the rules of the merge function are known."""
