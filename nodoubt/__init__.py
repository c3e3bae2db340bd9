"""Nodoubt: expressions that are read without a doubt."""
