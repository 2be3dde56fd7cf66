"""Hookcheck: admission hooks on documents, decided for all documents and all schedules."""
