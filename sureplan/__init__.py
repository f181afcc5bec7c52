"""Sureplan: a planner whose answers carry certificates."""
