package tests

import (
	"encoding/binary"
	"fmt"
	"hash/crc32"
	"slices"
	"testing"

	"loop.example/s02176/impl"
)

// nodeConfig has segments so small that a batch or two fill one.
func nodeConfig() impl.Config {
	return impl.Config{Window: 5, TenantLimit: 3, MetricLimit: 2, Shards: 2, Hash: 0, Segment: 100}
}

// wrongConfigs have one number each that isn't OK, at the edge of its range.
func wrongConfigs(c impl.Config) []impl.Config {
	all := []impl.Config{{}}
	for _, f := range fields() {
		k := c
		for _, *f.at(&k) = range []int{f.least - 1, f.most + 1} {
			all = append(all, k)
		}
	}
	return all
}

func seriesRec(tenant, key string) impl.Rec {
	return impl.Rec{Kind: impl.RecSeries, Tenant: tenant, Text: key}
}

func tickRec(by int) impl.Rec { return impl.Rec{Kind: impl.RecTick, Num: by} }

func limitRec(tenant, name string, limit int) impl.Rec {
	return impl.Rec{Kind: impl.RecLimit, Tenant: tenant, Text: name, Num: limit}
}

func recs(all ...impl.Rec) []impl.Rec { return all }

func batch(lsn int, all ...impl.Rec) impl.Batch { return impl.Batch{Lsn: lsn, Recs: all} }

func sameBatch(a, b impl.Batch) bool { return a.Lsn == b.Lsn && slices.Equal(a.Recs, b.Recs) }

// bytesOf gives the lowest width bytes of n, high byte first.
func bytesOf(n, width int) string {
	all := binary.BigEndian.AppendUint64(nil, uint64(n))
	return string(all[8-width:])
}

func sized(s string, width int) string { return bytesOf(len(s), width) + s }

// handBatch writes a batch by the words of the document, also one that has no encoding.
func handBatch(b impl.Batch) string {
	text := []byte(bytesOf(b.Lsn, 8) + bytesOf(len(b.Recs), 2))
	for _, r := range b.Recs {
		text = append(text, bytesOf(r.Kind, 1)+sized(r.Tenant, 1)+sized(r.Text, 2)+bytesOf(r.Num, 8)...)
	}
	return string(text)
}

func withCrc(text string) string {
	return text + bytesOf(int(crc32.Checksum([]byte(text), crc32.MakeTable(crc32.Castagnoli))), 4)
}

// bareState writes a state by the words of the document, without the CRC.
func bareState(lsn int, s impl.State) string {
	text := []byte("CKPT" + bytesOf(lsn, 8) + bytesOf(s.Now, 8) + bytesOf(len(s.Tenants), 4))
	for _, t := range s.Tenants {
		text = append(text, sized(t.Name, 1)+bytesOf(t.Limit, 8)+bytesOf(len(t.Metrics), 4)...)
		for _, m := range t.Metrics {
			text = append(text, sized(m.Metric, 2)+bytesOf(m.Limit, 8)...)
		}
		text = append(text, bytesOf(len(t.Series), 4)...)
		for _, x := range t.Series {
			text = append(text, sized(x.Key, 2)+bytesOf(x.Last, 8)...)
		}
	}
	return string(text)
}

func handState(lsn int, s impl.State) string { return withCrc(bareState(lsn, s)) }

func sameNode(a, b impl.Node) bool {
	return sameDisk(a.Disk, b.Disk) && a.Log == b.Log && sameState(a.State, b.State) &&
		a.Lsn == b.Lsn && a.Degraded == b.Degraded && a.Up == b.Up
}

func cloneNode(n impl.Node) impl.Node {
	n.Disk = cloneDisk(n.Disk)
	n.State = cloneState(n.State)
	return n
}

func toldNode(n impl.Node) string {
	return fmt.Sprintf("{%.600q %v %s lsn %d degraded %v up %v}", fmt.Sprint(n.Disk), n.Log, told(n.State), n.Lsn, n.Degraded, n.Up)
}

// noded is all that a function on nodes answers.
type noded struct {
	node impl.Node
	code int
}

func (a noded) same(b noded) bool { return sameNode(a.node, b.node) && a.code == b.code }

func (a noded) String() string { return fmt.Sprintf("%s, %d", toldNode(a.node), a.code) }

func nodeOpenOf(c impl.Config, d impl.Disk) noded {
	n, code := impl.NodeOpen(c, d)
	return noded{n, code}
}

func nodeApplyOf(c impl.Config, n impl.Node, all []impl.Rec) noded {
	after, code := impl.NodeApply(c, n, all)
	return noded{after, code}
}

func checkpointOf(c impl.Config, n impl.Node) noded {
	after, code := impl.NodeCheckpoint(c, n)
	return noded{after, code}
}

// expectNodeOpen asks for just this answer, and that d is as it was.
func expectNodeOpen(t *testing.T, what string, c impl.Config, d impl.Disk, want noded) {
	t.Helper()
	before := cloneDisk(d)
	if got := nodeOpenOf(c, d); !got.same(want) {
		t.Errorf("%s: %v, not %v", what, got, want)
	}
	if !sameDisk(d, before) {
		t.Errorf("%s: the argument became %+v, was %+v", what, d, before)
	}
}

// expectNoNode asks for a code and a disk alone.
func expectNoNode(t *testing.T, what string, c impl.Config, d, after impl.Disk, code int) {
	t.Helper()
	expectNodeOpen(t, what, c, d, noded{impl.Node{Disk: after}, code})
}

// expectNodeApply asks for just this answer, and that the arguments are as they were.
func expectNodeApply(t *testing.T, what string, c impl.Config, n impl.Node, all []impl.Rec, want noded) {
	t.Helper()
	before, given := cloneNode(n), slices.Clone(all)
	if got := nodeApplyOf(c, n, all); !got.same(want) {
		t.Errorf("%s: %v, not %v", what, got, want)
	}
	if !sameNode(n, before) || !slices.Equal(all, given) {
		t.Errorf("%s: the arguments became %s and %v, were %s and %v", what, toldNode(n), all, toldNode(before), given)
	}
}

// expectCheckpoint asks for just this answer, and that the node is as it was.
func expectCheckpoint(t *testing.T, what string, c impl.Config, n impl.Node, want noded) {
	t.Helper()
	before := cloneNode(n)
	if got := checkpointOf(c, n); !got.same(want) {
		t.Errorf("%s: %v, not %v", what, got, want)
	}
	if !sameNode(n, before) {
		t.Errorf("%s: the argument became %s, was %s", what, toldNode(n), toldNode(before))
	}
}

// mustOpen and mustApply are for what must be answered NodeOK on the way to a test.
func mustOpen(t *testing.T, c impl.Config, d impl.Disk) impl.Node {
	t.Helper()
	n, code := impl.NodeOpen(c, d)
	if code != impl.NodeOK {
		t.Fatalf("opening: code %d, %+v", code, d)
	}
	return n
}

func mustApply(t *testing.T, c impl.Config, n impl.Node, all ...impl.Rec) impl.Node {
	t.Helper()
	after, code := impl.NodeApply(c, n, all)
	if code != impl.NodeOK {
		t.Fatalf("applying %v: code %d, %s", all, code, toldNode(n))
	}
	return after
}

func mustCheckpoint(t *testing.T, c impl.Config, n impl.Node) impl.Node {
	t.Helper()
	after, code := impl.NodeCheckpoint(c, n)
	if code != impl.NodeOK {
		t.Fatalf("a checkpoint: code %d, %s", code, toldNode(n))
	}
	return after
}
