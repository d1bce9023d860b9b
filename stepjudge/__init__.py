"""Stepjudge: worked answers judged line by line."""
