package boot_test

import (
	"math/rand"
	"strings"
	"sync"
	"testing"

	"netboot/api"
	"netboot/boot"
)

// network: what stands at the other end: a server of DHCP, neighbours that tell their cards, a server of images.
type network struct {
	image         string
	block, window int    // of the server of images; 0: it knows no options
	router        bool   // the server of images is behind it
	time          uint32 // of a lease; 0: an hour
	renewed       int    // leases that were granted anew
	port          uint16 // from which the image comes
	acked         int    // blocks that the machine has
	now           int    // ticks
	sentAt        [2]int // when blocks were sent last, and behind which
	asked         map[api.IP]int
}

const farIP api.IP = 0xc0a80105

func (n *network) imagesIP() api.IP {
	if n.router {
		return farIP
	}
	return serverIP
}

// cardOf: a neighbour.
func cardOf(ip api.IP) api.MAC { return api.MAC{2, 0, 0, 0, 1, byte(ip)} }

// answers: to a frame of the machine.
func (n *network) answers(frame string) []string {
	f, _ := boot.ReadEther(frame)
	if f.Type == 0x0806 {
		return n.arp(f)
	}
	p, _ := boot.ReadIP(f.Load)
	u, _ := boot.ReadUDP(p.Load, p.From, p.To)
	if u.To == 67 {
		return n.dhcp(f, p, u)
	}
	return n.tftp(f, p, u)
}

func (n *network) arp(f api.Ether) []string {
	a, _ := boot.ReadARP(f.Load)
	n.asked[a.ToIP]++
	if a.Op != 1 || a.ToIP == myIP || a.ToIP == farIP {
		return nil
	}
	return []string{tells(cardOf(a.ToIP), a.ToIP)}
}

func (n *network) dhcp(f api.Ether, p api.IPv4, u api.UDP) []string {
	d, _ := boot.ReadDHCP(u.Load)
	answer := told(offer, d.Xid)
	if d.Options[0].Data == "\x03" {
		answer = told(ack, d.Xid).with(option(1, "\xff\xff\xff\x00"))
	}
	if p.To != toAllIP && (p.To != serverIP || f.To != cardOf(p.To)) {
		return nil
	}
	if d.Client != 0 {
		n.renewed++
	}
	if n.time != 0 {
		answer = answer.with(option(51, fourBytes(n.time)))
	}
	if n.router {
		answer = answer.with(addressOption(3, routerIP))
		answer.message.Next = farIP
	}
	return []string{answer.frame()}
}

func (n *network) tftp(f api.Ether, p api.IPv4, u api.UDP) []string {
	hop := n.imagesIP()
	if n.router {
		hop = routerIP
	}
	if f.To != cardOf(hop) || p.To != n.imagesIP() || p.From != myIP {
		return nil
	}
	m, _ := boot.ReadTFTP(u.Load)
	var out []api.TFTP
	switch {
	case m.Op == 1 && u.To == 69:
		n.acked, n.sentAt = 0, [2]int{}
		out = n.first()
	case m.Op == 4 && u.To == n.port:
		ahead := int(m.Block - uint16(n.acked)) // modulo 2 to the 16
		if ahead <= n.windowSize() {
			n.acked += ahead
		}
		if at := [2]int{n.now, n.acked}; n.sentAt != at { // lest each ack that comes twice doubles all that is behind it
			n.sentAt = at
			out = n.blocks()
		}
	}
	var frames []string
	for _, m := range out {
		l := serving(n.port, m)
		l.ip.From, l.udp.To = n.imagesIP(), u.From
		frames = append(frames, l.datagramFrame())
	}
	return frames
}

func (n *network) first() []api.TFTP {
	if n.block == 0 {
		return n.blocks()
	}
	return []api.TFTP{options(field("blksize", decimal(n.block)), field("windowsize", decimal(n.window)), field("tsize", decimal(len(n.image))))}
}

func (n *network) blockSize() int {
	if n.block == 0 {
		return 512
	}
	return n.block
}

func (n *network) windowSize() int { return max(n.window, 1) }

// blocks: a window of them, behind those that the machine has.
func (n *network) blocks() []api.TFTP {
	var out []api.TFTP
	for k := n.acked; k < n.acked+n.windowSize() && k*n.blockSize() <= len(n.image); k++ {
		rest := n.image[k*n.blockSize():]
		out = append(out, data(uint16(k+1), rest[:min(len(rest), n.blockSize())]))
	}
	return out
}

func decimal(n int) string {
	digits := ""
	for ; n > 9; n /= 10 {
		digits = string(rune('0'+n%10)) + digits
	}
	return string(rune('0'+n)) + digits
}

// way: what becomes of frames on their way: of a hundred so many are lost, and so many come twice.
type way struct {
	lost, twice int
	by          *rand.Rand
}

func badWay(seed, lost, twice int) *way {
	return &way{lost, twice, rand.New(rand.NewSource(int64(seed)))}
}

func (w *way) goes(frames []string) []string {
	if w.by == nil {
		return frames
	}
	var out []string
	for _, f := range frames {
		if w.by.Intn(100) < w.lost {
			continue
		}
		out = append(out, f)
		if w.by.Intn(100) < w.twice {
			out = append(out, f)
		}
	}
	return out
}

// run: a machine, a tick at a time, till the image is there, all attempts have failed, or so many ticks are over.
func run(b *boot.Boot, n *network, w *way, most int) {
	n.asked = map[api.IP]int{}
	for now := 0; now < most && b.Look().Phase < api.Done; now++ {
		step(b, n, w, uint32(now*now+7))
	}
}

// step: a tick, and all that goes to and fro behind it.
func step(b *boot.Boot, n *network, w *way, draw uint32) { rounds(b, n, w, draw, 100) }

// crawl: a tick, behind which each frame is answered once: what the machine sends to that goes at the next tick.
func crawl(b *boot.Boot, n *network, w *way, draw uint32) { rounds(b, n, w, draw, 1) }

func rounds(b *boot.Boot, n *network, w *way, draw uint32, most int) {
	b.Tick(draw)
	n.now++
	for range most {
		var come []string
		for _, f := range w.goes(allOut(b)) {
			come = append(come, w.goes(n.answers(f))...)
		}
		if len(come) == 0 {
			return
		}
		for _, f := range come {
			b.Put(f)
			b.Poll(1)
		}
	}
}

func sized(n int) string { return noise(int64(n)+1, n) }

// An ordinary boot: with and without options, the server in the net and behind a router.
func TestBoots(t *testing.T) {
	for _, router := range []bool{false, true} {
		for _, x := range []struct{ block, window int }{{0, 0}, {8, 1}, {8, 2}, {64, 3}, {512, 4}, {1000, 8}, {1024, 8}} {
			block := max(x.block, 8)
			if x.block == 0 {
				block = 512
			}
			for _, size := range []int{0, 1, block - 1, block, block + 1, 2*block - 1, 2 * block, 3 * block, 9*block + 5, 20000} {
				c := of(sized(size))
				c.Cap, c.Block, c.Window, c.Rx, c.Tx = 20000, 1024, 8, 16, 16
				b := begin(t, c)
				n := &network{image: sized(size), block: x.block, window: x.window, router: router, port: 40000}
				run(b, n, &way{}, 300)
				wantImage(t, b, "P9: a boot", sized(size))
				if l := b.Look(); l.Boots != 0 || l.Lost != 0 || l.Cached != 1 || l.Lease != api.Bound {
					t.Errorf("P9: a boot: Look() = %+v", l)
				}
				if router && (n.asked[routerIP] == 0 || n.asked[farIP] != 0) || !router && (n.asked[serverIP] == 0 || n.asked[routerIP] != 0) {
					t.Errorf("P8: router %v: asked for %v", router, n.asked)
				}
			}
		}
	}
}

func TestBootOfCapBytes(t *testing.T) {
	for _, most := range []int{1, 511, 512, 513, 5000, api.MaxCap} {
		for _, more := range []int{0, 1} {
			c := of(sized(most + more))
			c.Cap, c.Block, c.Window, c.Rx, c.Tx = most, 1024, 8, 16, 16
			b := begin(t, c)
			run(b, &network{image: sized(most + more), port: 40000}, &way{}, 2000)
			if more == 0 {
				wantImage(t, b, "P9: Cap bytes", sized(most))
				continue
			}
			if l := b.Look(); l.Phase != api.Failed || l.Boots != 3 || l.Bytes != 0 {
				t.Errorf("P9: one byte above Cap: Look() = %+v", l)
			}
		}
	}
}

// A net that loses and doubles frames: the image comes all the same, or the attempts fail; what comes is the image.
func TestBootsOverABadNet(t *testing.T) {
	done := 0
	for _, lost := range []int{0, 1, 5, 10, 20, 30} {
		for _, twice := range []int{0, 1, 10, 50, 100} {
			for window := 1; window <= 5; window++ {
				image := sized(60*lost + 11*twice + window)
				c := of(image)
				c.Cap, c.Block, c.Window, c.Rx, c.Tx = 3000, 64, 5, 16, 16
				b := begin(t, c)
				run(b, &network{image: image, block: 64, window: window, port: 3000}, badWay(lost*twice+window, lost, twice), 3000)
				if b.Look().Phase == api.Failed {
					continue
				}
				wantImage(t, b, "P9: a bad net", image)
				done++
			}
		}
	}
	if done < 100 {
		t.Errorf("P9: of 150 boots over a bad net %d came to their end", done)
	}
}

// A server that falls silent while the image comes: the attempt fails, the next one has it.
func TestServerThatFallsSilent(t *testing.T) {
	image := sized(2000)
	c := of(image)
	c.Cap, c.Block = 2000, 64
	b := begin(t, c)
	n := &network{image: image, block: 64, window: 2, port: 3000, asked: map[api.IP]int{}}
	first := true
	for now := range 200 {
		b.Tick(uint32(now))
		n.now++
		for range 60 {
			for _, f := range allOut(b) {
				if first && b.Look().Bytes >= 640 {
					continue
				}
				for _, g := range n.answers(f) {
					b.Put(g)
					b.Poll(1)
				}
			}
		}
		first = first && b.Look().Boots == 0
	}
	wantImage(t, b, "P9: the second attempt", image)
	if l := b.Look(); l.Boots != 1 {
		t.Errorf("P9: the second attempt: Look() = %+v", l)
	}
}

// fleet: machines that boot other images, each over a bad net of its own.
func fleet(t *testing.T, k int) (*boot.Boot, *network, *way) {
	image := sized(300 * k)
	c := of(image)
	c.Cap, c.Block, c.Window, c.Rx, c.Tx = 3000, 64, 5, 16, 16
	n := &network{image: image, block: 8 << (k % 4), window: 1 + k%5, router: k%2 == 1, port: 3000, asked: map[api.IP]int{}}
	return begin(t, c), n, badWay(k, 2*k, 10)
}

// Machines side by side, at once and by turns, do what each does alone.
func TestBootsSideBySide(t *testing.T) {
	const steps = 400
	var alone [8]api.Look
	var images [8]string
	var all sync.WaitGroup
	for k := range alone {
		all.Go(func() {
			b, n, w := fleet(t, k)
			for now := range steps {
				step(b, n, w, uint32(now*k))
			}
			alone[k] = b.Look()
			images[k], _ = b.Image()
		})
	}
	all.Wait()
	var bs [8]*boot.Boot
	var ns [8]*network
	var ws [8]*way
	for k := range bs {
		bs[k], ns[k], ws[k] = fleet(t, k)
	}
	for now := range steps {
		for k := range bs {
			step(bs[k], ns[k], ws[k], uint32(now*k))
		}
	}
	for k, b := range bs {
		if s, _ := b.Image(); b.Look() != alone[k] || s != images[k] {
			t.Errorf("P1: machine %d beside others: %+v, alone %+v", k, b.Look(), alone[k])
		}
		if alone[k].Phase == api.Done && images[k] != sized(300*k) {
			t.Errorf("P9: machine %d has another image", k)
		}
	}
	if n := strings.Count(strings.Join(images[:], ""), ""); n < 3000 {
		t.Errorf("P9: the machines have %d bytes in all", n)
	}
}

// Leases that are shorter than a boot, over a slow net: they are granted anew, and the image comes.
func TestBootsOfShortLeases(t *testing.T) {
	for _, router := range []bool{false, true} {
		for _, time := range []uint32{8, 9, 15, 16, 17, 20, 40, 100} {
			b := begin(t, slowly(sized(2000)))
			n := &network{image: sized(2000), block: 8, window: 1, router: router, port: 3000, time: time, asked: map[api.IP]int{}}
			for range 600 {
				crawl(b, n, &way{}, 1)
			}
			wantImage(t, b, "P10: short leases", sized(2000))
			if l := b.Look(); l.Boots != 0 || l.Lost != 0 || n.renewed < 250/int(time) {
				t.Errorf("P10: leases of %d: %d were granted anew, Look() = %+v", time, n.renewed, l)
			}
		}
	}
}

func slowly(image string) api.Config {
	c := of(image)
	c.Cap, c.Rx, c.Tx = 3000, 16, 16
	return c
}

// The same over a net that loses and doubles frames: a lease may be over ahead of its time, which is no failure.
func TestShortLeasesOverABadNet(t *testing.T) {
	done, renewed := 0, 0
	for k := range 120 {
		image := sized(100 + 10*k)
		b := begin(t, slowly(image))
		n := &network{image: image, block: 8, window: 1 + k%2, router: k%3 == 0, port: 3000, time: uint32(8 + k%50), asked: map[api.IP]int{}}
		w := badWay(k, k%20, k%7)
		for now := 0; now < 3000 && b.Look().Phase < api.Done; now++ {
			crawl(b, n, w, uint32(now*now+k))
		}
		renewed += n.renewed
		if b.Look().Phase == api.Done {
			wantImage(t, b, "P10: short leases over a bad net", image)
			done++
		}
	}
	if done < 60 || renewed < 300 {
		t.Errorf("P10: of 120 boots over a bad net %d came to their end, %d leases were granted anew", done, renewed)
	}
}

// oldFleet: machines with short leases of their own, each over a bad net of its own.
func oldFleet(t *testing.T, k int) (*boot.Boot, *network, *way) {
	image := sized(500 + 100*k)
	n := &network{image: image, block: 8, window: 1 + k%2, router: k%2 == 1, port: 3000, time: uint32(8 + 5*k), asked: map[api.IP]int{}}
	return begin(t, slowly(image)), n, badWay(k, k, 2*k)
}

// Machines whose leases grow old side by side do at each tick what each does alone.
func TestOldLeasesSideBySide(t *testing.T) {
	const steps = 500
	var alone [8][steps]api.Look
	var all sync.WaitGroup
	for k := range alone {
		all.Go(func() {
			b, n, w := oldFleet(t, k)
			for now := range steps {
				crawl(b, n, w, uint32(now*k))
				alone[k][now] = b.Look()
			}
		})
	}
	all.Wait()
	var bs [8]*boot.Boot
	var ns [8]*network
	var ws [8]*way
	for k := range bs {
		bs[k], ns[k], ws[k] = oldFleet(t, k)
	}
	for now := range steps {
		for k, b := range bs {
			crawl(b, ns[k], ws[k], uint32(now*k))
			if b.Look() != alone[k][now] {
				t.Fatalf("P1: machine %d beside others: %+v, alone %+v", k, b.Look(), alone[k][now])
			}
		}
	}
}

// Each call answers the same in two machines to which the same comes, whatever the order of the cache's map.
func TestTheSameTwice(t *testing.T) {
	var first []string
	for round := range 30 {
		b := bound(t, config())
		var seen []string
		for now := range 90 {
			for k := range 3 {
				ip := serverIP + api.IP((now*7+k*5)%9)
				comes(t, b, asksMe(api.MAC{2, 0, 0, 0, 2, byte(now)}, ip))
			}
			seen = append(seen, allOut(b)...)
			comes(t, b, served(serverPort, options()))
			seen = append(seen, allOut(b)...)
			comes(t, b, served(serverPort, data(0, "")))
			b.Tick(uint32(now))
			seen = append(seen, allOut(b)...)
		}
		if round == 0 {
			first = seen
		}
		if strings.Join(seen, "|") != strings.Join(first, "|") {
			t.Fatalf("P1: in round %d other frames are sent", round)
		}
	}
}
