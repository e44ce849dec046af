package syntax

import "strings"

// special are the bytes that do not mean themselves where they stand bare.
const special = "()[.^$\\|*+?{"

func isSpecial(b byte) bool { return strings.IndexByte(special, b) >= 0 }

// Quote gives a text with a \ ahead of each special byte.
func Quote(s string) string {
	var quoted strings.Builder
	// Byte by byte: a range over the text would change bytes that are no UTF-8.
	for i := range len(s) {
		if isSpecial(s[i]) {
			quoted.WriteByte('\\')
		}
		quoted.WriteByte(s[i])
	}
	return quoted.String()
}
