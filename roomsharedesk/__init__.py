"""Rooms shared on a journey, whole."""
