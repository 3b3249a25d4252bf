"""Lenstree: a relational store in which every schema version is live."""
