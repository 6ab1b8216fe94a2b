package image

// polynomial is that of IEEE 802.3, its bits from the greatest power down to the least.
const polynomial = 0xedb88320

// Sum is the CRC-32 of IEEE 802.3.
func Sum(bytes []byte) uint32 {
	sum := ^uint32(0)
	for _, b := range bytes {
		sum ^= uint32(b)
		for range 8 {
			out := sum & 1
			sum >>= 1
			if out == 1 {
				sum ^= polynomial
			}
		}
	}
	return ^sum
}
