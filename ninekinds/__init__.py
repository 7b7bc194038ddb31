"""Columns of numbers of nine kinds, made from one kind into another."""
