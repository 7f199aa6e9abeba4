package call

import (
	"slices"

	"cameo/api"
	"cameo/desc"
	"cameo/key"
	"cameo/value"
)

// unsound tells whether an operation can stand in no body. Fields that its code does not use may be anything.
func unsound(op api.Op) bool {
	return op.Code < api.OConst || op.Code > api.OSetBy ||
		noRegister(op.To) || slices.ContainsFunc(registers(op), noRegister) ||
		usesKey(op.Code) && key.Check(op.Key) != api.OK ||
		!rest(op)
}

func noRegister(n int) bool { return n < 0 || n >= api.MaxRegs }

// registers is those of A, B and C that are registers of an operation's code.
func registers(op api.Op) []int {
	switch op.Code {
	case api.OMove, api.OReturn, api.OThrow, api.OSkip, api.OMake,
		api.OGet, api.ODelete, api.OHas, api.OOwn, api.OProto, api.OExt, api.OPrevent:
		return []int{op.A}
	case api.OSet, api.ODefine, api.OReproto, api.ONew, api.OGetBy:
		return []int{op.A, op.B}
	case api.OCall, api.OSetBy:
		return []int{op.A, op.B, op.C}
	}
	return nil
}

func usesKey(code int) bool {
	switch code {
	case api.OGet, api.OSet, api.ODefine, api.ODelete, api.OHas, api.OOwn:
		return true
	}
	return false
}

// rest tells whether what a code alone uses is sound.
func rest(op api.Op) bool {
	switch op.Code {
	case api.OConst:
		return value.Check(op.Val) == api.OK
	case api.OArg:
		return op.A >= 0
	case api.OSkip:
		return op.B >= 0
	case api.ODefine:
		return desc.Check(op.Desc) == api.OK && !(op.Flag && accessor(op.Desc))
	}
	return true
}

// accessor tells whether a descriptor has what cannot stand beside a Value.
func accessor(d api.Desc) bool { return d.Get.Kind != api.KNone || d.Set.Kind != api.KNone }
