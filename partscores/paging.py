"""How a part is laid out on pages, so that each turn falls into a rest."""

from partscores.writing import written_bars


def silent_about_ends(bars, notes):
    counts = []
    last_end = sum(bars)
    silent_from = 0
    end = 0
    k = 0
    for length in bars:
        end += length
        while k < len(notes) and notes[k].start < end:
            silent_from = notes[k].end
            k += 1
        silent_to = notes[k].start if k < len(notes) else last_end
        # A note that goes on over the bar's end leaves no silence there, whatever comes behind it.
        counts.append(0 if silent_from > end else silent_to - silent_from)
    return counts


def places_to_end(bars, notes, rest):
    places = [count >= rest for count in silent_about_ends(bars, notes)]
    # Behind the last bar nobody turns.
    return places[:-1] + [True]


def furthest_end(rows, places, begin, most):
    furthest = begin
    standing = 0
    for k in range(begin, len(rows)):
        if len(rows[k]) > 0:
            standing += len(rows[k])
        elif k == begin or len(rows[k - 1]) > 0:
            standing += 1
        if standing > most:
            break
        if places[k]:
            furthest = k + 1
    return furthest


# With fewer bars there never stands more on a page. So whatever may follow a page that ends early may follow,
# shortened, one that ends late: pages that each end as late as they may are the fewest, with the most bars first.
def page_ends(bars, player, most, rest):
    rows = written_bars(bars, player)
    places = places_to_end(bars, player.notes, rest)
    ends = []
    begin = 0
    while begin < len(bars):
        end = furthest_end(rows, places, begin, most)
        if end == begin:
            return None
        ends.append(end)
        begin = end
    return ends
