"""Hydras: cut, told and compared. The calls are answered in heads.hydra."""
