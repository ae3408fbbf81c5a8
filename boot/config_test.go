package boot_test

import (
	"math"
	"strings"
	"testing"

	"netboot/api"
	"netboot/boot"
)

func wantConfig(t *testing.T, c api.Config, right bool) {
	t.Helper()
	b, e := boot.New(c)
	if right && (b == nil || e != api.OK) {
		t.Errorf("P6: New(%v) = %v, %d", c, b, e)
	}
	if !right && (b != nil || e != api.ErrConfig) {
		t.Errorf("P6: New(%v) = %v, %d, want ErrConfig", c, b, e)
	}
}

func TestConfigNumbers(t *testing.T) {
	for _, x := range []struct {
		set         func(c *api.Config, n int)
		least, most int
	}{
		{func(c *api.Config, n int) { c.Cap = n }, 1, 600000},
		{func(c *api.Config, n int) { c.Block = n }, 8, 1024},
		{func(c *api.Config, n int) { c.Window = n }, 1, 8},
		{func(c *api.Config, n int) { c.Rx = n }, 1, 16},
		{func(c *api.Config, n int) { c.Tx = n }, 1, 16},
	} {
		c := config()
		for _, n := range []int{x.least, x.least + 1, x.most - 1, x.most} {
			x.set(&c, n)
			wantConfig(t, c, true)
		}
		for _, n := range []int{x.least - 1, x.most + 1, 0, -1, -x.least, -x.most, math.MinInt, math.MaxInt} {
			x.set(&c, n)
			wantConfig(t, c, false)
		}
	}
}

func TestConfigCards(t *testing.T) {
	for _, card := range []api.MAC{{2}, {0xfe, 255, 255, 255, 255, 255}, {0, 1}, {0, 0, 0, 0, 0, 1}, {4, 1, 1, 1, 1, 1}} {
		c := config()
		c.Card = card
		wantConfig(t, c, true)
	}
	for _, card := range []api.MAC{{}, {1}, {3, 0, 0, 0, 0, 42}, allCards, {0x81, 2, 2, 2, 2, 2}} {
		c := config()
		c.Card = card
		wantConfig(t, c, false)
	}
}

func TestConfigNames(t *testing.T) {
	c := config()
	for n := range 256 {
		right := n >= 33 && n <= 126
		one := string([]byte{byte(n)})
		for _, name := range []string{one, one + "kernel", "ker" + one + "nel", strings.Repeat("k", 19) + one} {
			c.Name = name
			wantConfig(t, c, right)
		}
	}
	for n := range 30 {
		c.Name = strings.Repeat("k", n)
		wantConfig(t, c, n >= 1 && n <= 20)
	}
	c.Name = strings.Repeat("k", 70000)
	wantConfig(t, c, false)
}

func TestConfigDigests(t *testing.T) {
	c := config()
	for n := range 70 {
		c.Digest = noise(int64(n), n)
		wantConfig(t, c, n == 32)
	}
	c.Digest = strings.Repeat("\x00", 32)
	wantConfig(t, c, true)
}

func TestConfigOfNothing(t *testing.T) { wantConfig(t, api.Config{}, false) }

func TestNewMachine(t *testing.T) {
	least := api.Config{Card: myCard, Name: "!", Cap: 1, Digest: boot.Hash(""), Block: 8, Window: 1, Rx: 1, Tx: 1}
	most := api.Config{Card: myCard, Name: strings.Repeat("~", 20), Cap: 600000, Digest: boot.Hash(""), Block: 1024, Window: 8, Rx: 16, Tx: 16}
	for _, c := range []api.Config{least, most, config()} {
		b := begin(t, c)
		wantLook(t, b, "P6: at time 0", api.Look{})
		wantOut(t, b, "P6: at time 0")
	}
}

// A machine that New did not make has nothing, and answers all the same.
func TestNoMachine(t *testing.T) {
	for _, b := range []*boot.Boot{nil, {}} {
		b.Tick(1)
		if b.Put("") || b.Poll(1) != 0 {
			t.Errorf("P1: a frame comes to no card")
		}
		wantOut(t, b, "P1: no machine")
		wantLook(t, b, "P1: no machine", api.Look{})
	}
}
