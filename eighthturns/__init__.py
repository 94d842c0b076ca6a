"""Eighthturns: machines that turn rays by eighths, and exactly which tables they make."""
