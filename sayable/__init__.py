"""Sayable: how one thing among others is said."""
