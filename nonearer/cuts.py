"""Cuts: what may be left of a disk when writing is stopped."""

from nonearer.disk import Disk
from nonearer.errors import Refused

MOST_CUTS = 5000


def chosen(choice, at, most):
    """Returns the number at an index of a choice, but at most as many as there are; all if it is missing."""
    return min(choice[at], most) if at < len(choice) else most


def cut(disk, choice):
    """Returns the disk that a cut leaves, by a choice of how many changes of names and how many cells stay."""
    files = disk.files_behind(chosen(choice, 0, disk.unsafe_changes()))
    left = {}
    for at, (name, cells, safe) in enumerate(files):
        left[name] = cells[:safe + chosen(choice, at + 1, len(cells) - safe)]
    return Disk(left)


def names_kept(disk):
    """Returns the files that have names behind none, some or all changes of names that are not safe."""
    return [disk.files_behind(many) for many in range(disk.unsafe_changes() + 1)]


def cell_choices(files):
    """Returns the number of ways to choose how many cells of each of some files stay."""
    many = 1
    for _, cells, safe in files:
        many = many * (len(cells) - safe + 1)
    return many


def cut_count(disk):
    """Returns the number of ways to cut a disk."""
    return sum([cell_choices(files) for files in names_kept(disk)])


def images_of(files):
    """Returns the list of the images of some files by all ways to choose how many of their cells stay."""
    images = [()]
    for name, cells, safe in files:
        kept = [(name, cells[:many]) for many in range(safe, len(cells) + 1)]
        images = [image + (pair,) for image in images for pair in kept]
    return images


def images_left(disk):
    """Returns the list of the images that all ways to cut a disk leave, some of them perhaps more than once."""
    return [image for files in names_kept(disk) for image in images_of(files)]


def all_cuts(disk):
    """Returns the lot of the images that a cut can leave."""
    if cut_count(disk) > MOST_CUTS:
        raise Refused("size")
    return tuple(sorted(set(images_left(disk))))


def play(disk, call):
    """Makes a call on a disk."""
    word = call[0]
    if word == "make":
        disk.make(call[1])
    elif word == "append":
        disk.append(call[1], call[2])
    elif word == "rename":
        disk.rename(call[1], call[2])
    elif word == "remove":
        disk.remove(call[1])
    elif word == "sync":
        disk.sync(call[1])
    else:
        disk.sync_names()


def played(files, calls):
    """Returns the disk that some calls leave of some files."""
    disk = Disk(files)
    for call in calls:
        play(disk, call)
    return disk


def count_moments(files, calls):
    """Returns the sum of the numbers of ways to cut a disk before and behind each of some calls."""
    disk = Disk(files)
    many = cut_count(disk)
    for call in calls:
        play(disk, call)
        many = many + cut_count(disk)
    return many


def moments(files, calls):
    """Returns the lot of the images that a cut can leave before or behind any of some calls."""
    if count_moments(files, calls) > MOST_CUTS:
        raise Refused("size")
    disk = Disk(files)
    images = images_left(disk)
    for call in calls:
        play(disk, call)
        images.extend(images_left(disk))
    return tuple(sorted(set(images)))
