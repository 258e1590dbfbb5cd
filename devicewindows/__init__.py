"""Buffers that devices reach through windows, copies and cached lines."""
