"""Shinglelap: roofs laid course by course, joints never near joints beneath."""
