"""Walkers on trees and webs, told exactly."""
