"""A school bus's stops: who walks where, which stops the bus goes to, when, and which it could do without."""
