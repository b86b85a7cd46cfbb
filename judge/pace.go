package judge

import (
	"tideway/api"
	"tideway/seq"
)

const (
	// perByte is how much a byte counts: then a rate in bytes a second gives as much each microsecond.
	perByte = 1000000
	// lastAt is as far as the time of an entry goes.
	lastAt = 1 << 45
	// mostEntries is how many there are at most.
	mostEntries = 100000
)

// Paced tells whether a pace was kept.
func Paced(l []api.Entry, rate int, burst int) bool {
	if !isFromNought(rate, api.MaxRate) || !isFromNought(burst, api.MaxSize) || !mayBe(l) {
		return false
	}
	first := 0
firsts:
	for first < len(l) {
		owed := 0 // what left from first up to k, less what the rate gave since: never more than a burst and a value
		for k := first; k < len(l); k++ {
			if k > first {
				// The product may have 85 bits: it stays at the greatest int, which is more than is ever owed.
				given, _ := seq.MulDiv(rate, l[k].At-l[k-1].At, 1)
				if given >= owed {
					// From here on no pair with an earlier first one owes more than those with this one do.
					first = k
					continue firsts
				}
				owed -= given
			}
			owed += l[k].V * perByte
			if owed > burst*perByte {
				return false
			}
		}
		break firsts
	}
	return true
}

// mayBe tells whether there may be such entries.
func mayBe(l []api.Entry) bool {
	if len(l) > mostEntries {
		return false
	}
	at := 0
	for _, x := range l {
		if !isFromNought(x.V, api.MaxSize) || x.At < at || x.At > lastAt {
			return false
		}
		at = x.At
	}
	return true
}

// isFromNought tells whether n is from 0 to most.
func isFromNought(n, most int) bool { return n >= 0 && n <= most }
