package boot_test

import (
	"strings"
	"testing"

	"netboot/api"
	"netboot/boot"
)

const frameHead = "\x01\x02\x03\x04\x05\x06\x07\x08\x09\x0a\x0b\x0c"

// frame: between the cards of frameHead.
func frame(kind uint16, load string) api.Ether {
	return api.Ether{To: api.MAC{1, 2, 3, 4, 5, 6}, From: api.MAC{7, 8, 9, 10, 11, 12}, Type: kind, Load: load}
}

func wantFrame(t *testing.T, s string, want api.Ether, wrong api.Errno) {
	t.Helper()
	if got, e := boot.ReadEther(s); got != want || e != wrong {
		t.Errorf("P3: ReadEther(%.40x), of %d bytes = %v, %d, want %v, %d", s, len(s), got, e, want, wrong)
	}
}

func wantFrameBytes(t *testing.T, f api.Ether, want string, wrong api.Errno) {
	t.Helper()
	if got, e := boot.WriteEther(f); got != want || e != wrong {
		t.Errorf("P3: WriteEther(%v) = %x, %d, want %x, %d", f, got, e, want, wrong)
	}
}

func TestReadEther(t *testing.T) {
	most := noise(1, api.MaxLoad)
	wantFrame(t, frameHead+"\x08\x00", frame(0x0800, ""), api.OK)
	wantFrame(t, frameHead+"\x08\x06x", frame(0x0806, "x"), api.OK)
	wantFrame(t, frameHead+"\x06\x00hello", frame(1536, "hello"), api.OK)
	wantFrame(t, frameHead+"\xff\xffhello\x00\x00", frame(0xffff, "hello\x00\x00"), api.OK)
	wantFrame(t, frameHead+"\x08\x00"+most, frame(0x0800, most), api.OK)
	wantFrame(t, strings.Repeat("\xff", 14), api.Ether{To: api.MAC{255, 255, 255, 255, 255, 255}, From: api.MAC{255, 255, 255, 255, 255, 255}, Type: 0xffff}, api.OK)
}

func TestReadEtherOfWrongBytes(t *testing.T) {
	more := strings.Repeat("x", api.MaxLoad+1)
	for n := range 14 {
		wantFrame(t, (frameHead + "\x08\x00")[:n], api.Ether{}, api.ErrShort)
		wantFrame(t, strings.Repeat("\x00", n), api.Ether{}, api.ErrShort)
	}
	wantFrame(t, frameHead+"\x05\xff", api.Ether{}, api.ErrType)
	wantFrame(t, frameHead+"\x05\xffhello", api.Ether{}, api.ErrType)
	wantFrame(t, frameHead+"\x00\x00", api.Ether{}, api.ErrType)
	wantFrame(t, frameHead+"\x06\x00"+more, api.Ether{}, api.ErrLong)
	wantFrame(t, frameHead+"\x06\x00"+more+more, api.Ether{}, api.ErrLong)
	wantFrame(t, frameHead+"\x05\xff"+more, api.Ether{}, api.ErrType)
}

func TestWriteEther(t *testing.T) {
	most := noise(1, api.MaxLoad)
	wantFrameBytes(t, frame(0x0800, ""), frameHead+"\x08\x00"+strings.Repeat("\x00", 46), api.OK)
	wantFrameBytes(t, frame(0x0800, "hello"), frameHead+"\x08\x00hello"+strings.Repeat("\x00", 41), api.OK)
	wantFrameBytes(t, frame(0x0800, strings.Repeat("x", 45)), frameHead+"\x08\x00"+strings.Repeat("x", 45)+"\x00", api.OK)
	wantFrameBytes(t, frame(1536, strings.Repeat("x", 46)), frameHead+"\x06\x00"+strings.Repeat("x", 46), api.OK)
	wantFrameBytes(t, frame(1536, strings.Repeat("x", 47)), frameHead+"\x06\x00"+strings.Repeat("x", 47), api.OK)
	wantFrameBytes(t, frame(0xffff, most), frameHead+"\xff\xff"+most, api.OK)
}

func TestWriteEtherOfWrongFrames(t *testing.T) {
	more := strings.Repeat("x", api.MaxLoad+1)
	wantFrameBytes(t, frame(0, ""), "", api.ErrType)
	wantFrameBytes(t, frame(1535, "hello"), "", api.ErrType)
	wantFrameBytes(t, frame(1535, more), "", api.ErrType)
	wantFrameBytes(t, frame(1536, more), "", api.ErrLong)
}

// What fills a frame up is read as what it carries.
func TestEtherThereAndBack(t *testing.T) {
	for n := range 100 {
		load := noise(int64(n), n)
		s, e := boot.WriteEther(frame(0x0800, load))
		if e != api.OK || len(s) != max(60, n+14) {
			t.Errorf("P3: WriteEther of %d bytes has %d, %d", n, len(s), e)
		}
		wantFrame(t, s, frame(0x0800, load+strings.Repeat("\x00", max(0, 46-n))), api.OK)
	}
}
