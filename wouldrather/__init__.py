"""What one would rather: chances, and numbers for prizes, that agree with what was told."""
