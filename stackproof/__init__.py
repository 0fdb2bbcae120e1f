"""Stackproof: blocks of rows that keep the kinds they tell."""
