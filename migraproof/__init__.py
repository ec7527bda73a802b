"""Migraproof: exact analysis, repair and recovery of table migrations."""
