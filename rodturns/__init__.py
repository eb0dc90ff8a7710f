"""Rodturns: turning the hinges of a folded rule inside a case."""
