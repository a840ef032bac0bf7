"""Aheadbehind: boxes that may stand for others."""
