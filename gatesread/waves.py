"""How the values of the nets change in time (points 61 and 62)."""

from gatesread.arrivals import cell_delay, net_load
from gatesread.bits import check_bits
from gatesread.cellkinds import cell_value
from gatesread.circuits import net_count


def net_waves(circuit, channels, before, inputs, states):
    """Return the list of the waves of all nets."""
    check_bits(before, net_count(circuit))
    check_bits(inputs, circuit[0])
    check_bits(states, len(circuit[3]))
    waves = []
    for net, bit in enumerate(inputs):
        waves.append(changed_wave(before[net], bit, net_load(circuit, channels, net)))
    latch = 0
    for kind, sources, output in circuit[1]:
        load = net_load(circuit, channels, output)
        if kind == "latch":
            waves.append(changed_wave(before[output], states[latch], load))
            latch += 1
        elif kind in ("tie0", "tie1"):
            waves.append([(0, cell_value(kind, []))])
        else:
            olds = [before[net] for net in sources]
            news = [waves[net] for net in sources]
            waves.append(delayed_wave(kind, olds, news, cell_delay(kind, load)))
    return waves


def changed_wave(old, new, time):
    """Return the wave of a net that has a new value from a time on."""
    values = {0: old}
    # A net without a load has its new value at once.
    values[time] = new
    return without_repeats(values)


def delayed_wave(kind, olds, waves, delay):
    """Return the wave of the output of a cell.

    olds are the values of the inputs before time 0, and waves are their waves from then on.
    """
    changes = [(time, place, value) for place, wave in enumerate(waves) for time, value in wave]
    now = list(olds)
    values = {0: cell_value(kind, now)}
    for time, place, value in sorted(changes):
        now[place] = value
        # Where several inputs change at one time, the last of these values counts.
        values[time + delay] = cell_value(kind, now)
    return without_repeats(values)


def without_repeats(values):
    """Return the wave for a dict from ascending times to values, of which some do not change."""
    wave = []
    for time, value in values.items():
        if not wave or value != wave[-1][1]:
            wave.append((time, value))
    return wave


def value_at(wave, time):
    """Return the value of a net at a time, from its wave."""
    return [value for start, value in wave if start <= time][-1]
