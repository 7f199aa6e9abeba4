package typed

import "cameo/api"

// What the calls refuse: each of these is one reason. All of them may be asked of anything, so that they can be asked in a row, of which the first one counts.

// protoKind refuses what can be no prototype.
func protoKind(v api.Value) api.Errno {
	if v.Kind != api.KNull && v.Kind != api.KRef {
		return api.ErrValue
	}
	return api.OK
}

func notBelow(n int) api.Errno {
	if n < 0 {
		return api.ErrRange
	}
	return api.OK
}

// inBuffer refuses what no buffer can have as the number of its bytes.
func inBuffer(n int) api.Errno {
	if n < 0 || n > api.MaxBuffer {
		return api.ErrRange
	}
	return api.OK
}

func isKind(kind int) api.Errno {
	if Size(kind) == 0 {
		return api.ErrRange
	}
	return api.OK
}

func typeError() error { return &api.Thrown{Kind: api.XType} }

func rangeError() error { return &api.Thrown{Kind: api.XRange} }
