"""Tailroad: calls in last place become jumps."""
