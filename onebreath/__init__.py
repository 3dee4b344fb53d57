"""Onebreath: machines that draw from one store."""
