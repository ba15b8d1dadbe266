"""Tests of the package unseenfolds."""
