package call

import (
	"cameo/api"
	"cameo/value"
)

func typeError() (api.Value, error) { return api.Value{}, &api.Thrown{Kind: api.XType} }

// handled is what was thrown as a value; what stops goes on.
func handled(err error) (api.Value, error) {
	if v, ok := caught(err); ok {
		return v, nil
	}
	return api.Value{}, err
}

// caught is what an error is as a value. What stops is none, because nobody inside may go on behind it.
func caught(err error) (api.Value, bool) {
	switch x := err.(type) {
	case *api.Thrown:
		return asValue(x)
	}
	return api.Value{}, false
}

// asValue is what was thrown as a value: an error is its name.
func asValue(t *api.Thrown) (api.Value, bool) {
	switch {
	case t == nil:
		return api.Value{}, false
	case t.Kind == api.XValue && value.Check(t.Value) == api.OK:
		return t.Value, true
	case t.Kind >= api.XType && t.Kind <= api.XReference:
		return value.Str(t.Error()), true
	}
	return api.Value{}, false
}
