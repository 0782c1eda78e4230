"""Rerunyard: what goes on in a yard, run, run by code, and run again."""
