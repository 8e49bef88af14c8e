"""Logreplica: one row of entries kept by many."""
