"""Keys by hours: which uses open a door, which keys still open though their guests are gone, and who is locked out."""

from nightsheld.errors import NoGone, NoKeys, NoUses
from nightsheld.wholes import is_within

LAST_HOUR = 200
DOORS = 5
MOST_SERIAL = 99
MOST_KEYS = 8
MOST_USES = 20


def is_hour(thing):
    """Whether it is an hour, of anything."""
    return is_within(thing, 0, LAST_HOUR)


def is_key(thing):
    """Whether it is a key, of anything: a tuple (room, begin, end, serial)."""
    if not isinstance(thing, tuple) or len(thing) != 4:
        return False
    room, begin, end, serial = thing
    if not is_within(room, 0, DOORS - 1) or not is_within(serial, 1, MOST_SERIAL):
        return False
    return is_hour(begin) and is_hour(end) and begin < end


def are_keys(thing):
    """Whether it is a tuple of keys, no two of one room with one serial, of anything."""
    if not isinstance(thing, tuple) or len(thing) > MOST_KEYS:
        return False
    if not all([is_key(key) for key in thing]):
        return False
    return len({(room, serial) for room, begin, end, serial in thing}) == len(thing)


def is_use(keys, thing):
    """Whether it is a use of one of the keys, of anything: a tuple (hour, number)."""
    if not isinstance(thing, tuple) or len(thing) != 2:
        return False
    hour, number = thing
    return is_hour(hour) and is_within(number, 0, len(keys) - 1)


def are_uses(keys, thing):
    """Whether it is a tuple of uses of the keys, their hours not falling, of anything."""
    if not isinstance(thing, tuple) or len(thing) > MOST_USES:
        return False
    if not all([is_use(keys, use) for use in thing]):
        return False
    return all([use[0] <= behind[0] for use, behind in zip(thing, thing[1:])])


def is_leave(key, thing):
    """Whether it is None or an hour at which the key's guest can be gone, of anything."""
    room, begin, end, serial = key
    return thing is None or is_within(thing, begin, end)


def is_gone(keys, thing):
    """Whether it is a tuple that tells for each key when its guest is gone, of anything."""
    if not isinstance(thing, tuple) or len(thing) != len(keys):
        return False
    return all([is_leave(key, hour) for key, hour in zip(keys, thing)])


def need_keys(keys):
    """Refuse what is no keys."""
    if not are_keys(keys):
        raise NoKeys()


def need_gone(keys, gone):
    """Refuse what doesn't tell when the keys' guests are gone."""
    if not is_gone(keys, gone):
        raise NoGone()


def need_uses(keys, uses):
    """Refuse what is no uses of the keys."""
    if not are_uses(keys, uses):
        raise NoUses()


def opens(key, hour, kept):
    """Whether the key's door opens to it at the hour, by the serials that the doors keep."""
    room, begin, end, serial = key
    return begin <= hour < end and serial >= kept[room]


def use_all(keys, uses):
    """(opened, kept): for each use whether the door opened, and the serial that each door keeps behind them all."""
    kept = [0] * DOORS
    told = []
    for hour, number in uses:
        key = keys[number]
        told.append(opens(key, hour, kept))
        if told[-1]:
            # A door opens to no serial less than the kept one, so this one is the greatest.
            kept[key[0]] = key[3]
    return told, kept


def opened(keys, uses):
    """The tuple that tells for each use whether the door opened."""
    need_keys(keys)
    need_uses(keys, uses)
    return tuple(use_all(keys, uses)[0])


def once_more(keys, uses):
    """For each hour, and each key then, (hour, number, opens): whether it would open if it were used once more."""
    rows = []
    for hour in range(LAST_HOUR + 1):
        kept = use_all(keys, [use for use in uses if use[0] <= hour])[1]
        rows.extend([(hour, number, opens(key, hour, kept)) for number, key in enumerate(keys)])
    return rows


def leaves(keys, gone):
    """For each key the hour from which on its guest is gone."""
    return [key[2] if hour is None else hour for key, hour in zip(keys, gone)]


def ghosts(keys, gone, uses):
    """The rising tuple of (hour, number) at which a key whose guest is gone would still open."""
    need_keys(keys)
    need_gone(keys, gone)
    need_uses(keys, uses)
    ends = leaves(keys, gone)
    return tuple([(hour, number) for hour, number, does in once_more(keys, uses) if does and hour >= ends[number]])


def locked_out(keys, gone, uses):
    """The rising tuple of (hour, number) at which a key whose guest is there wouldn't open."""
    need_keys(keys)
    need_gone(keys, gone)
    need_uses(keys, uses)
    ends = leaves(keys, gone)
    return tuple([
        (hour, number) for hour, number, does in once_more(keys, uses)
        if not does and keys[number][1] <= hour < ends[number]
    ])
