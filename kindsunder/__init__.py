"""Kindsunder: which type is under which, in tables of classes whose parameters have signs."""
