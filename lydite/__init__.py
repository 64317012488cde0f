"""Lydite: telling functions apart. Import from the modules of this package."""
