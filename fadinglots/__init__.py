"""Mixed lots with declining strength."""
