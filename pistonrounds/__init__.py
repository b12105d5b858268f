"""Pistonrounds: pistons that push one another, and papers that they go their round."""
