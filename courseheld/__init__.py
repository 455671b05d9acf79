"""A craft held on its way: a scheme of blocks, and a fleet of craft that go through its ticks."""
