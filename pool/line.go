package pool

import (
	"container/heap"

	"ecclesia/api"
	"ecclesia/state"
)

// line is entries as a heap, with the one whose turn is next on top.
type line []entry

func (l line) Len() int { return len(l) }

// Less goes by nonces first, as a sender's transfers can be done in that order
// alone.
func (l line) Less(i, j int) bool {
	if l[i].Nonce != l[j].Nonce {
		return l[i].Nonce < l[j].Nonce
	}
	return l[i].sum < l[j].sum
}

func (l line) Swap(i, j int) { l[i], l[j] = l[j], l[i] }

func (l *line) Push(one any) { *l = append(*l, one.(entry)) }

func (l *line) Pop() any {
	last := len(*l) - 1
	one := (*l)[last]
	*l = (*l)[:last]
	return one
}

// lined is a heap of entries.
func lined(waiting []entry) heap.Interface {
	made := &line{}
	for _, one := range waiting {
		heap.Push(made, one)
	}
	return made
}

// chosen are the first entries of a heap that a proposer does to a row, one behind
// the other, as many as a block has room for.
func chosen(turns heap.Interface, l []api.Account, proposer string) []entry {
	var made []entry
	for turns.Len() > 0 && len(made) < api.MaxTxs {
		one := heap.Pop(turns).(entry)
		if left, errno := state.Apply(l, one.Tx, proposer); errno == api.OK {
			made, l = append(made, one), left
		}
	}
	return made
}
