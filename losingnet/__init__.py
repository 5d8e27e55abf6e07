"""Who sees what over a net that loses."""
