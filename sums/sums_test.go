package sums

import (
	"encoding/base64"
	"math/rand"
	"testing"

	"valise/api"
)

func TestInLetters(t *testing.T) {
	r := rand.New(rand.NewSource(64))
	for i := range 500 {
		var sum [32]byte
		for at := range sum {
			sum[at] = byte(r.Intn(256))
		}
		sum[i%32], sum[(i+1)%32] = 255, 0
		if got, want := inLetters(sum), base64.StdEncoding.EncodeToString(sum[:]); got != want {
			t.Fatalf("%x is told as %q, want %q", sum, got, want)
		}
	}
}

func TestOfLooksAtNamesInOrder(t *testing.T) {
	for _, c := range []struct {
		names []string
		want  api.Errno
	}{
		{nil, api.OK}, {[]string{"a", "A", "a/b"}, api.OK}, {[]string{"a", "a", "b:"}, api.ErrTwice}, {[]string{"a", "b:", "a"}, api.ErrName}, {[]string{""}, api.ErrName},
	} {
		var files []api.File
		for _, name := range c.names {
			files = append(files, api.File{Name: name})
		}
		if sum, fault := Of("p/", files); fault != c.want || (sum == "") != (fault != api.OK) {
			t.Errorf("%q: %q, %d, want %d", c.names, sum, fault, c.want)
		}
	}
}
