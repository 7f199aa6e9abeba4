package strobj

import (
	"cameo/api"
	"cameo/value"
)

// What New refuses: each of these is one reason. All of them may be asked of anything, so that they can be asked in a row, of which the first one counts.

// protoKind refuses what can be no prototype.
func protoKind(v api.Value) api.Errno {
	if v.Kind != api.KNull && v.Kind != api.KRef {
		return api.ErrValue
	}
	return api.OK
}

// isString refuses bytes that are no string, or too many.
func isString(s string) api.Errno { return value.Check(api.Value{Kind: api.KStr, Str: s}) }
