"""What operations can bring about in cabinets of relays."""
