"""Back to all disks: lost disks are replaced, and all that are not in are taken in."""


def take_all(store):
    if store.work() is not None:
        store.finish()
    disks = store.disks
    lost = disks.lost()
    for disk in lost:
        store.replace(disk)
    missing = sorted(set(list(range(disks.array.disks))) - set(disks.inside()))
    for disk in missing:
        store.take_in(disk)
        store.finish()
    return missing
