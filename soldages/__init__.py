"""Soldages: which unit to sell first, and what the choice can change."""
