"""The tests of trustedpages."""
