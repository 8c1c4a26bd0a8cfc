"""Overturn: how many votes does it take to reverse a judgment?"""
