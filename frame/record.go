package frame

import (
	"ecclesia/api"
	"ecclesia/rlp"
)

// written is the record of the fields in a field, if it fits a form's kind.
func written(whole kind, f api.Field) (string, api.Errno) {
	// The field around them is none of them.
	if left(whole, f, maxFields+1) < 0 {
		return "", api.ErrArg
	}
	return rlp.Encode(itemOf(whole, f))
}

// itemOf is the item of a field that fits a kind.
func itemOf(k kind, f api.Field) api.Item {
	switch k.sign {
	case number:
		return rlp.Number(f.N)
	case group, each:
		kids := make([]api.Item, len(f.L))
		for i, kid := range f.L {
			kids[i] = itemOf(k.kid(i), kid)
		}
		return rlp.List(kids...)
	default:
		return api.Item{Bytes: f.B}
	}
}

// fieldOf is the field that fits a kind and has this item, if there is one; else
// it is one that does not fit, or has another item.
func fieldOf(k kind, x api.Item) api.Field {
	var f api.Field
	switch k.sign {
	case number:
		f.N, _ = rlp.Value(x)
	case group, each:
		for i, kid := range x.Kids {
			f.L = append(f.L, fieldOf(k.kid(i), kid))
		}
	default:
		f.B = x.Bytes
	}
	return f
}
