"""What merge is to answer, told without the program: which members of each stay, then what each of these is."""
from asking import depth, expected_of_two, write


def merged(value, other):
    if not isinstance(other, dict):
        return other
    own = value if isinstance(value, dict) else {}
    taken_out = {name for name in other if other[name] is None}
    names = [name for name in own if name not in taken_out]
    names += [name for name in other if name not in taken_out and name not in own]
    return {name: merged(own.get(name), other[name]) if name in other else own[name] for name in names}


def expected_merge(t, p, most_bytes=262144, deepest=64):
    def tell(value, other):
        found = merged(value, other)
        return -7 if len(write(found)) > most_bytes or depth(found) > deepest else write(found)

    return expected_of_two(t, p, 32, tell)
