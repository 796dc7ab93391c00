"""An agreement between two sides, gone through day by day."""
