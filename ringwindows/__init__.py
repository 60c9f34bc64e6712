"""Ringwindows: counts round a ring with bounds for windows."""
