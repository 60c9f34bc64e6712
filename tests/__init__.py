"""The tests of ringwindows."""
