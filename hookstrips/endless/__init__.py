"""What has no end: series of rows, and boxes that grow."""
