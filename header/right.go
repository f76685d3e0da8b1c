package header

import (
	"ecclesia/api"
	"ecclesia/sign"
)

// sized says if a header's texts have their sizes.
func sized(h api.Header) bool {
	hashes := len(h.Parent) == api.Hash && len(h.Root) == api.Hash && len(h.Txs) == api.Hash
	return hashes && len(h.Proposer) == api.Addr && len(h.Vanity) <= api.Vanity
}

// rising says if validators may be: some, but not too many, addresses that rise.
func rising(set []string) bool {
	if len(set) == 0 || len(set) > api.MaxSet {
		return false
	}
	for i, one := range set {
		if len(one) != api.Addr || i > 0 && set[i-1] >= one {
			return false
		}
	}
	return true
}

// voted says if a header's vote may be: none is of no address, and none out.
func voted(h api.Header) bool {
	return len(h.Vote) == api.Addr || h.Vote == "" && !h.Add
}

// sealed says if seals may be.
func sealed(seals []api.Sig) bool {
	if len(seals) > api.MaxSet {
		return false
	}
	for _, one := range seals {
		if _, errno := sign.Bytes(one); errno != api.OK {
			return false
		}
	}
	return true
}
