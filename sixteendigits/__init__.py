"""Decimal numbers of sixteen digits; the calls are in sixteendigits.decimals."""
