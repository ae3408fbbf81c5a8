package wire

// Check: the sum of the internet of s.
func Check(s string) uint16 {
	var sum uint16
	for i := 0; i < len(s); i += 2 {
		word := uint16(s[i]) << 8
		if i+1 < len(s) {
			word |= uint16(s[i+1])
		}
		sum += word
		if sum < word { // it wrapped round: what was carried is added again
			sum++
		}
	}
	return ^sum
}
