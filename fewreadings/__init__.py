"""Fewreadings: means that are told by few readings, all of them exact."""
