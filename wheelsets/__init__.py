"""Sets of places on a wheel of up to 64 places; the calls are in wheelsets.desk."""
