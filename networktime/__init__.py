"""Electric networks in time: runs that go step by step by a told rule, rounded as told."""
