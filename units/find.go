package units

// find is the first place in l at which all of t stands, or -1. It never goes back in l, so that long
// strings that are nearly alike do not cost the product of their lengths.
func find(l, t []uint16) int {
	if len(t) == 0 {
		return 0
	}
	ends := borders(t)
	k := 0
	for i, u := range l {
		k = extend(t, ends, k, u)
		if k == len(t) {
			return i + 1 - k
		}
	}
	return -1
}

// borders tells, for each beginning of t, how long the longest shorter beginning is with which it also ends.
func borders(t []uint16) []int {
	ends := make([]int, len(t))
	for i := 1; i < len(t); i++ {
		ends[i] = extend(t, ends, ends[i-1], t[i])
	}
	return ends
}

// extend is how much of t's beginning stands at the end of a row, if k of it stood there ahead of the unit u.
func extend(t []uint16, ends []int, k int, u uint16) int {
	for k > 0 && t[k] != u {
		k = ends[k-1]
	}
	if t[k] == u {
		k++
	}
	return k
}
