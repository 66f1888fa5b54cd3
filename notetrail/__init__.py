"""Notetrail: what the files of handover notes prove."""
