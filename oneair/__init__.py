"""Oneair: many who may speak on one air."""
