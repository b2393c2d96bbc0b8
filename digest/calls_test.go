package digest_test

import (
	"reflect"
	"strings"
	"testing"

	"valise/api"
	"valise/digest"
	"valise/disk"
	"valise/valise"
)

// answers are those of all calls of the document, each with its errors beside it.
func answers() []any {
	const module, version = "m.x/y", "v1.2.3"
	tree := []api.Entry{{Name: "go.mod", Data: "module m.x/y\n"}, {Name: "a/b", Data: strings.Repeat("long ", 50)}}
	var all []any
	tell := func(answer ...any) { all = append(all, answer...) }
	tell(valise.Digest(""), valise.Digest(strings.Repeat("valise", 100)), valise.Check("abc"))
	packed, fault := valise.Deflate("again, again, again, again")
	tell(packed, fault)
	data, used, fault := valise.Inflate(packed)
	tell(data, used, fault)
	files, left, fault := valise.Choose(tree)
	tell(files, left, fault)
	archive, fault := valise.Pack(module, version, tree)
	tell(archive, fault)
	files, fault = valise.Unpack(module, version, archive)
	tell(files, fault)
	sum, fault := valise.Sum(module, version, files)
	tell(sum, fault)
	none, fault := valise.Sum(module, version, nil)
	tell(none, fault)
	tell(valise.Verify(module, version, archive, sum), valise.Verify(module, version, archive, none))
	d := disk.New()
	tell(valise.Extract(d, "p", module, version, archive), valise.Recover(d, "p"), d)
	return all
}

// No call of the document meets what is kept, neither what it is nor whether it is there.
func TestCallsMeetNothingThatIsKept(t *testing.T) {
	defer digest.Forget()
	digest.Forget()
	want := answers()
	if digest.Kept() != ([64]uint32{}) {
		t.Errorf("a call makes the numbers be kept")
	}
	right := valise.RoundNumbers()
	if digest.Kept() != right || right[0] != 0x428a2f98 || right[63] != 0xc67178f2 {
		t.Errorf("RoundNumbers does not make the numbers be kept")
	}
	digest.Spoil()
	if !reflect.DeepEqual(answers(), want) {
		t.Errorf("a call hangs on what is kept")
	}
	if valise.RoundNumbers() == right {
		t.Errorf("RoundNumbers does not read what is kept")
	}
}
