"""Clockwright: a hardware tool chain."""
