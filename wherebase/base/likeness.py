"""Strict equality of told values."""

from wherebase.base.numbers import is_integer


def is_like(value, told):
    """Whether a value equals one that is built of integers, strings, tuples and dicts; True is not like 1."""
    if isinstance(told, tuple):
        if not isinstance(value, tuple) or len(value) != len(told):
            return False
        return all([is_like(one, other) for one, other in zip(value, told)])
    if isinstance(told, dict):
        return _is_like_dict(value, told)
    if isinstance(told, int):
        return is_integer(value) and value == told
    return isinstance(value, str) and value == told


def _is_like_dict(value, told):
    if not isinstance(value, dict) or len(value) != len(told):
        return False
    # a key that is found can still be True in the place of 1
    own = {key: key for key in told}
    for key in value:
        if key not in own or not is_like(key, own[key]) or not is_like(value[key], told[key]):
            return False
    return True
