"""Tests of ghostkeys."""
