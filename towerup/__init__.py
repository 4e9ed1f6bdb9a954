"""Towerup: objects that several sides call, built upon one another."""
