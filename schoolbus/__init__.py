"""A school bus's stops: who walks where, and which stops the bus goes to."""
