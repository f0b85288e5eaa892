"""A board of sound: a desk that makes orders for gains, each for a sample to come."""
