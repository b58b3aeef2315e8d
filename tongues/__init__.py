"""Tongues: a workbench for languages that are given as data."""
