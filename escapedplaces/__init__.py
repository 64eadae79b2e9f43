"""Stenciltext: a template engine that escapes by place."""
