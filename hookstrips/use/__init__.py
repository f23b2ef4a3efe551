"""What keeps rows under names."""
