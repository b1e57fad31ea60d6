"""Sharerules: who may do what, with reasons."""
