package ratchet

import (
	"bytes"
	"encoding/hex"
	"fmt"
	"strings"
	"testing"

	"signet/api"
)

// talk: what a Python program (its hmac, hashlib and cryptography) told of a talk of x, the First, and y, the
// Second. A side in short (the first six bytes of Root, Own, Peer, Send and Recv; Out, In, Last; Can and Hear; what
// is Kept: four bytes of the Peer, N, four bytes of the Key). Of a text that was sealed: by whom, six bytes of the
// head's Key, its Last and N, the bytes. Of one that was opened: by whom, its place, the side behind it.
const talk = `
x 8d7598ae0146 010203040506 492f1cb85847 e69d947e5186 000000000000 0 0 0 10 []
y c8c9cacbcccd 28292a2b2c2d 000000000000 000000000000 000000000000 0 0 0 00 []
s x 07a37cbc1420 0 0 729c1e6047a5050f301fece1e320f05a
s x 07a37cbc1420 0 1 4d36e50af443d5ffb0f379b988bcd217f5a2dd70251babcd6263b3
s x 07a37cbc1420 0 2 17d1ca18be525141b498fd0610581e44d3cbb6bbf4523263163ac0ba5fadd9a382232f9507d1
s x 07a37cbc1420 0 3 e2f776bf38bb8f9001c768e84442001dffe752181e0934d8f39a70b4ab032f14b9744020fef233961d49a33bc07ce1a4df
o y 1 1df24f381785 535455565758 07a37cbc1420 507090de45f2 bd7d88d8b385 0 2 0 11 [07a37cbc.0.c8384a5d]
o y 0 1df24f381785 535455565758 07a37cbc1420 507090de45f2 bd7d88d8b385 0 2 0 11 []
s y 755fe1dba8a3 0 0 bb3ff1104461431236b11fa10c383f69
s y 755fe1dba8a3 0 1 e5e53a9fdfe579644e1f5144c70a8e68291dcceadf6c6903cd322c
s y 755fe1dba8a3 0 2 b91d8c2ecff1bf6312067463a840a8f31203124647fd3136335ffcadc45c061b72a5524ffca0
o x 6 c9ebe38e89b6 626364656667 755fe1dba8a3 761ad995f948 3b1a8b5d7d16 0 3 4 11 [755fe1db.0.9cbd0eea 755fe1db.1.f44aec2a]
o x 4 c9ebe38e89b6 626364656667 755fe1dba8a3 761ad995f948 3b1a8b5d7d16 0 3 4 11 [755fe1db.1.f44aec2a]
s x 93d19c4cd991 4 0 732570946321bbb19291043131226c1a224490562cbd6666c2936420940f0d414809bfbbfff390c25f73371afa801ee3f6
s x 93d19c4cd991 4 1 0e4172eea3a73176577826fd9f8fbd12
o y 8 d7db1f96b040 68696a6b6c6d 93d19c4cd991 efa6fee21868 d5a409848077 0 2 3 11 [07a37cbc.2.74cbc3a7 07a37cbc.3.adad9a48 93d19c4c.0.03651eac]
s y 7e7c5c702924 3 0 7b484e1907360f23251969224e1eb3d37d2c589bdf85ff29ca7763
s y 7e7c5c702924 3 1 eb4f828b9e6dc35e8e3a1fa110acaa572b5343e0ba788f4bbeacd1318451558f2d8792172ba27b4a
o y 3 d7db1f96b040 68696a6b6c6d 93d19c4cd991 3ecf7d658633 d5a409848077 2 2 3 11 [07a37cbc.2.74cbc3a7 93d19c4c.0.03651eac]
o x 9 f02c06613653 6b6c6d6e6f70 7e7c5c702924 587e3755be2e bf2d16f1b479 0 1 2 11 [755fe1db.1.f44aec2a]
s x c0e4cbfbd3e2 2 0 285a7b4b3204ecb8cc5237bf7048f955bcd2b1e46cf2388575efce86afaeab3cb00ce097c718d7508ce175932df03c5808f7ff8e
s x c0e4cbfbd3e2 2 1 433f580b27693d9980cfebecaaccff1e
s x c0e4cbfbd3e2 2 2 87bb602ff8733b666a09723251491d191b74ddd05b19466d9cbafa6c
s x c0e4cbfbd3e2 2 3 f86d75b93400a1f27b5563b0da160f403922826d12709dd5b2ac8df074545cf4d218efaa002620ce
s x c0e4cbfbd3e2 2 4 11eedf4ebdc69d998af1a8e900020a78fc9cd2c625f61f0b6dcb6f6bc78965560a9558da781a0fbd713f6d1333d73db9c55d3c93
s x c0e4cbfbd3e2 2 5 b1528379037d24670c1386d87a16b305
s x c0e4cbfbd3e2 2 6 e0a8954de5393b5289858ebcd86a476ff9da8d4bdfa10b640b7f445e
s x c0e4cbfbd3e2 2 7 fb85e11677f0ff2660bec92e0b07d04d4c9bbca254b15bb3b696bc32d402baed6d9eb36a81468de8
s x c0e4cbfbd3e2 2 8 ab02ea48e97261e903807578d451878b956a4935824c3011c16c2e131fe3eb97c9a405ea1e1bb1f91d661aed0c7ef1311820dbf8
o y 19 dfa62059bbac 898a8b8c8d8e c0e4cbfbd3e2 97c5c0eeabd3 d0d9fc5b3bf7 0 9 2 11 [07a37cbc.2.74cbc3a7 93d19c4c.0.03651eac c0e4cbfb.0.1b5d51a2 c0e4cbfb.1.489ea83c c0e4cbfb.2.e456e8ed c0e4cbfb.3.c518ea3e c0e4cbfb.4.189eb5be c0e4cbfb.5.a2ad97ab c0e4cbfb.6.94c2c592 c0e4cbfb.7.2f71dc3c]
o y 2 dfa62059bbac 898a8b8c8d8e c0e4cbfbd3e2 97c5c0eeabd3 d0d9fc5b3bf7 0 9 2 11 [93d19c4c.0.03651eac c0e4cbfb.0.1b5d51a2 c0e4cbfb.1.489ea83c c0e4cbfb.2.e456e8ed c0e4cbfb.3.c518ea3e c0e4cbfb.4.189eb5be c0e4cbfb.5.a2ad97ab c0e4cbfb.6.94c2c592 c0e4cbfb.7.2f71dc3c]
o y 15 dfa62059bbac 898a8b8c8d8e c0e4cbfbd3e2 97c5c0eeabd3 d0d9fc5b3bf7 0 9 2 11 [93d19c4c.0.03651eac c0e4cbfb.0.1b5d51a2 c0e4cbfb.1.489ea83c c0e4cbfb.2.e456e8ed c0e4cbfb.3.c518ea3e c0e4cbfb.5.a2ad97ab c0e4cbfb.6.94c2c592 c0e4cbfb.7.2f71dc3c]
s y 8de10622a620 2 0 bc5c387aaaa080149dfcb85cb617cc33
s y 8de10622a620 2 1 85550929129496d5447aaa3cd0af074a985158c1ea3cf2f605e31c73
s y 8de10622a620 2 2 9243a842bfa96ab29bc3e543c518d479838ce94cbed96bf0a775ee84e48339d0448b5c03cabaf84a
s y 8de10622a620 2 3 f5402323a31e41346d568d6a69fa2dce96efb73c18378df775e18854ca6386343070d4d176a538c60beab3a3fd8c2a63d6cb4763
s y 8de10622a620 2 4 298425261646d13526ee65481e74587e
s y 8de10622a620 2 5 208602f00ba9c0a52675c5555b3a92b77aff9f43df66044eeb780663
o x 25 59104fc14825 9b9c9d9e9fa0 8de10622a620 c1cead8f63e9 bfaef3f31400 0 6 9 11 [755fe1db.1.f44aec2a 7e7c5c70.1.4a3d89bc 8de10622.0.c0815a0b 8de10622.1.e14b84c0 8de10622.2.941230a3 8de10622.3.dbb76228 8de10622.4.12ff6f60]
o x 10 59104fc14825 9b9c9d9e9fa0 8de10622a620 c1cead8f63e9 bfaef3f31400 0 6 9 11 [755fe1db.1.f44aec2a 8de10622.0.c0815a0b 8de10622.1.e14b84c0 8de10622.2.941230a3 8de10622.3.dbb76228 8de10622.4.12ff6f60]
o x 5 59104fc14825 9b9c9d9e9fa0 8de10622a620 c1cead8f63e9 bfaef3f31400 0 6 9 11 [8de10622.0.c0815a0b 8de10622.1.e14b84c0 8de10622.2.941230a3 8de10622.3.dbb76228 8de10622.4.12ff6f60]
s x 2d66f936e6b6 9 0 b5c69667993fff54c03ea48c7a8be033b05cc5b292101bb12cb8ca6663961bfd91c8cdfa5dd8c21c
s x 2d66f936e6b6 9 1 55a716cc1c4ddedb8ca05cea626589b4d448bf6de73b4cc43a3700dfb53632d11091eb96288b5c838d04204b5ea50d783cdf5601
s x 2d66f936e6b6 9 2 9d1fb0c3ed5a432aa59ddb01036fa103
s x 2d66f936e6b6 9 3 7f4633db0bc16074a053959cd8ea008514f46f2ac5b2a337433b6f0a
s x 2d66f936e6b6 9 4 21b637865c32fdc24cbde63ef04f0195f44a50f0aa369fe96e274cb561c2076226d2613233bfcb62
s x 2d66f936e6b6 9 5 bb16709c600279d9876a3d5317600198a73b01da1a4c784d352cd895f624c469f16f72e290edd519e6bcd26ea901b156ba6b1f6e
s x 2d66f936e6b6 9 6 c5eaf28f007367626f97b01a0092fbb9
o y 32 f19f0f066f2c b0b1b2b3b4b5 2d66f936e6b6 7774b895aee1 fd7634e54709 0 7 6 11 [c0e4cbfb.1.489ea83c c0e4cbfb.2.e456e8ed c0e4cbfb.3.c518ea3e c0e4cbfb.5.a2ad97ab c0e4cbfb.6.94c2c592 c0e4cbfb.7.2f71dc3c 2d66f936.0.b3fa885f 2d66f936.1.0b98cfaf 2d66f936.2.a311048d 2d66f936.3.d61687d3 2d66f936.4.f9714ba0 2d66f936.5.877ffcd5]
s y 3f3e5f6d8692 6 0 354809e4f9b198bb4c466d9cdb12e5aa53a16bef8c82e83b604e947a
o y 31 f19f0f066f2c b0b1b2b3b4b5 2d66f936e6b6 7b300a2a3666 fd7634e54709 1 7 6 11 [c0e4cbfb.1.489ea83c c0e4cbfb.2.e456e8ed c0e4cbfb.3.c518ea3e c0e4cbfb.5.a2ad97ab c0e4cbfb.6.94c2c592 c0e4cbfb.7.2f71dc3c 2d66f936.0.b3fa885f 2d66f936.1.0b98cfaf 2d66f936.2.a311048d 2d66f936.3.d61687d3 2d66f936.4.f9714ba0]
x 59104fc14825 9b9c9d9e9fa0 8de10622a620 fd7634e54709 bfaef3f31400 7 6 9 11 [8de10622.0.c0815a0b 8de10622.1.e14b84c0 8de10622.2.941230a3 8de10622.3.dbb76228 8de10622.4.12ff6f60]
y f19f0f066f2c b0b1b2b3b4b5 2d66f936e6b6 7b300a2a3666 fd7634e54709 1 7 6 11 [c0e4cbfb.1.489ea83c c0e4cbfb.2.e456e8ed c0e4cbfb.3.c518ea3e c0e4cbfb.5.a2ad97ab c0e4cbfb.6.94c2c592 c0e4cbfb.7.2f71dc3c 2d66f936.0.b3fa885f 2d66f936.1.0b98cfaf 2d66f936.2.a311048d 2d66f936.3.d61687d3 2d66f936.4.f9714ba0]
`

func short(k api.Key, n int) string { return hex.EncodeToString(k[:n]) }

// inShort tells a side as talk does.
func inShort(r api.Ratchet) string {
	var l []string
	for _, k := range r.Kept {
		l = append(l, fmt.Sprintf("%s.%d.%s", short(k.Peer, 4), k.N, short(k.Key, 4)))
	}
	var all []string
	for _, k := range []api.Key{r.Root, r.Own, r.Peer, r.Send, r.Recv} {
		all = append(all, short(k, 6))
	}
	can, hear := 0, 0
	if r.Can {
		can = 1
	}
	if r.Hear {
		hear = 1
	}
	return fmt.Sprintf("%s %d %d %d %d%d %s", strings.Join(all, " "), r.Out, r.In, r.Last, can, hear, l)
}

// besideOf and textOf answer what stands beside the text of a place, and that text.
func besideOf(place int) []byte { return bytes.Repeat([]byte{byte(place)}, place%5) }

func textOf(place int, who string) []byte {
	return bytes.Repeat([]byte(fmt.Sprintf("text %d of %s", place, who)), place%4)
}

// parcel: a text on its way.
type parcel struct {
	who  string
	head api.Head
	b    []byte
}

// TestTalk: P14.1, P14.3, P14.5, P14.6: a talk as another program had it, in which texts come late, behind others
// and not at all, keys turn, and more are skipped than are kept.
func TestTalk(t *testing.T) {
	x, e := First(key(200), key(1), public(40))
	if e != api.OK {
		t.Fatalf("error %d", e)
	}
	sides := map[string]api.Ratchet{"x": x, "y": Second(key(200), key(40))}
	var way []parcel
	for i, line := range strings.Split(strings.TrimSpace(talk), "\n") {
		word, rest, _ := strings.Cut(line, " ")
		got := inShort(sides[word])
		switch word {
		case "s":
			rest, got, way = sealed(t, sides, way, rest)
		case "o":
			rest, got = opened(t, sides, way, rest)
		}
		if got != rest {
			t.Fatalf("line %d: %s\nwant %s", i, got, rest)
		}
	}
}

func sealed(t *testing.T, sides map[string]api.Ratchet, way []parcel, rest string) (string, string, []parcel) {
	who, rest, _ := strings.Cut(rest, " ")
	r, h, b, e := Seal(sides[who], besideOf(len(way)), textOf(len(way), who))
	if e != api.OK {
		t.Fatalf("text %d: error %d", len(way), e)
	}
	sides[who] = r
	return rest, fmt.Sprintf("%s %d %d %x", short(h.Key, 6), h.Last, h.N, b), append(way, parcel{who, h, b})
}

func opened(t *testing.T, sides map[string]api.Ratchet, way []parcel, rest string) (string, string) {
	var who string
	var place int
	fmt.Sscan(rest, &who, &place)
	_, rest, _ = strings.Cut(rest, fmt.Sprintf("%s %d ", who, place))
	p := way[place]
	r, text, e := Open(sides[who], key(byte(80+3*place)), besideOf(place), p.head, p.b)
	if e != api.OK || !bytes.Equal(text, textOf(place, p.who)) {
		t.Fatalf("text %d: %q, error %d", place, text, e)
	}
	sides[who] = r
	return rest, inShort(r)
}
