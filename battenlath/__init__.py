"""Battens: the line that bends least, exactly."""
