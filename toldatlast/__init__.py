"""Toldatlast: which error is told at last, for all lots of failing steps."""
