package frame

// The signs of a form.
const (
	number    = 'n'
	hash      = 'h'
	address   = 'a'
	signature = 's'
	text      = 'b'
	group     = '('
	groupEnd  = ')'
	each      = '*'
)

const (
	maxSigns = 40
	// maxOpen is how many kinds of ( and * are open at most.
	maxOpen = 4
)

// kind is one of a form, by its first sign; below is the kinds of the form in
// one of (, and the one kind behind *.
type kind struct {
	sign  byte
	below []kind
}

// parse is a form as one kind of (, around it, if it may be.
func parse(form string) (kind, bool) {
	if len(form) > maxSigns {
		return kind{}, false
	}
	// Each of these stands in the one ahead of it, all of them in the form.
	open := []kind{{sign: group}}
signs:
	for i := range len(form) {
		done := kind{sign: form[i]}
		switch last := len(open) - 1; done.sign {
		case number, hash, address, signature, text:
		case group, each:
			if last == maxOpen {
				return kind{}, false
			}
			open = append(open, done)
			continue signs
		case groupEnd:
			if last == 0 || open[last].sign != group {
				return kind{}, false
			}
			done, open = open[last], open[:last]
		default:
			return kind{}, false
		}
		// A kind that ends, ends each * that is right ahead of it.
		for {
			last := len(open) - 1
			open[last].below = append(open[last].below, done)
			if open[last].sign != each {
				continue signs
			}
			done, open = open[last], open[:last]
		}
	}
	return open[0], len(open) == 1
}

// kid is the kind that a field has, by its place in one of this kind; where
// there is none, it is no kind.
func (k kind) kid(place int) kind {
	if k.sign == each {
		place = 0
	}
	if place >= len(k.below) {
		return kind{}
	}
	return k.below[place]
}
