"""Samples kept coarse: old ones in buckets, older ones in larger buckets, and the closest bounds of what they were."""
