"""Powers round n: units, their orders, generators and logarithms."""
