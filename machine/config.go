package machine

import (
	"netboot/api"
	"netboot/digest"
	"netboot/wire"
)

const groupBit = 1 // of a card's first byte: the number is of several cards, not of one

// mayBe: a machine can be made of the configuration.
func mayBe(c api.Config) bool {
	return isCard(c.Card) &&
		len(c.Name) <= api.MaxName && wire.IsName(c.Name) &&
		len(c.Digest) == digest.Size &&
		isIn(c.Cap, 1, api.MaxCap) &&
		isIn(c.Block, api.MinBlock, api.MaxBlock) &&
		isIn(c.Window, 1, api.MaxWindow) &&
		isIn(c.Rx, 1, api.MaxRing) &&
		isIn(c.Tx, 1, api.MaxRing)
}

// isCard: the number is of one card.
func isCard(m api.MAC) bool { return m != api.MAC{} && m[0]&groupBit == 0 }

func isIn(n, least, most int) bool { return n >= least && n <= most }
