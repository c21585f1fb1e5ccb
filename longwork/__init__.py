"""Longwork: long works, begun again from kept marks."""
