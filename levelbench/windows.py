"""Jobs with windows: a plan of them, or a crowd that shows that there is none."""

from levelbench.errors import NoWindow, TooMany
from levelbench.kinds import check_benches, is_name, is_whole

MOST_WINDOWS = 20


def check_windows(windows):
    if len(windows) > MOST_WINDOWS:
        raise TooMany("there are more than twenty windows")
    for name, window in windows.items():
        if not is_name(name):
            raise NoWindow("a key is no name")
        if not is_window(window):
            raise NoWindow("a window is a tuple of two whole numbers")


def is_window(thing):
    return isinstance(thing, tuple) and len(thing) == 2 and all([is_whole(part) for part in thing])


def windowed(benches, windows):
    check_benches(benches)
    check_windows(windows)
    crowd = find_crowd(benches, windows)
    if crowd is not None:
        return crowd
    return ("plan", soonest_end_first(benches, windows))


def find_crowd(benches, windows):
    # A crowd that begins or ends between the windows' own starts and ends may be narrowed to them.
    for start in [window[0] for window in windows.values()]:
        for end in [window[1] for window in windows.values()]:
            row = [name for name in windows if start <= windows[name][0] and windows[name][1] <= end]
            if len(row) > benches * max(end - start + 1, 0):
                return ("crowd", start, end, row)
    return None


def soonest_end_first(benches, windows):
    # Where there is no crowd, taking the soonest ends of those that have begun keeps every job within its window.
    turns = []
    left = sorted(windows, key=lambda name: windows[name][1])
    while left:
        turn = next_turn(turns, [windows[name][0] for name in left])
        row = [name for name in left if windows[name][0] <= turn][:benches]
        turns.append((turn, row))
        left = [name for name in left if name not in row]
    return turns


def next_turn(turns, starts):
    # Turns in which nothing can be done are leapt over: windows may lie very far apart.
    if not turns:
        return min(starts)
    return max(turns[-1][0] + 1, min(starts))
