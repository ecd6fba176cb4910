"""What everything else stands on: ratios and plain numbers."""
