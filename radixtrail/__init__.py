"""Radixtrail: names kept by common beginnings."""
