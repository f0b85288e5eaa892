"""A board of sound: a desk makes orders for gains, each for a sample to come; boards put sounds together by them."""
