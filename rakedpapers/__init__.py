"""Rakedpapers: papers that are marbled on a bath."""
