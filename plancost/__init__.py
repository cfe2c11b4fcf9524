"""What a plan costs at most."""
