"""Manysides: a database of arrays with many dimensions."""
