"""Pinball tables told by texts: reads them strictly and tells what stands in them."""
