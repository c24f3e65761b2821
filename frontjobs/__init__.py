"""Frontjobs: the shells and jobs of one terminal, decided for all weavings and any number of jobs."""
