package kdf

import (
	"bytes"
	"crypto/hkdf"
	"crypto/hmac"
	"encoding/hex"
	"hash"
	"math/rand"
	"slices"
	"testing"

	"signet/api"
	"signet/blake"
)

func unhex(t *testing.T, s string) []byte {
	t.Helper()
	b, err := hex.DecodeString(s)
	if err != nil {
		t.Fatalf("no bytes: %s", s)
	}
	return b
}

// of answers a byte so often.
func of(x byte, n int) []byte { return bytes.Repeat([]byte{x}, n) }

// rising answers 1, 2, 3, .., which no key with noughts behind it is.
func rising(n int) []byte {
	b := make([]byte, n)
	for i := range b {
		b[i] = byte(i + 1)
	}
	return b
}

// falling answers 255, 254, 253, ..: texts that are no keys.
func falling(n int) []byte {
	b := make([]byte, n)
	for i := range b {
		b[i] = byte(255 - i)
	}
	return b
}

func drawBytes(r *rand.Rand, n int) []byte {
	b := make([]byte, n)
	r.Read(b)
	return b
}

// summer lends the sums of package blake to Go's own HMAC and HKDF.
type summer struct{ all []byte }

func newSummer() hash.Hash { return &summer{} }

func (s *summer) Write(b []byte) (int, error) {
	s.all = append(s.all, b...)
	return len(b), nil
}

func (s *summer) Sum(b []byte) []byte {
	k := blake.Sum(s.all)
	return append(b, k[:]...)
}

func (s *summer) Reset()         { s.all = nil }
func (s *summer) Size() int      { return 32 }
func (s *summer) BlockSize() int { return 64 }

// bookMac answers by Go's own HMAC.
func bookMac(key, b []byte) api.Key {
	h := hmac.New(newSummer, key)
	h.Write(b)
	return api.Key(h.Sum(nil))
}

// bookThree answers by Go's own HKDF (RFC 5869): that of the Noise protocol is
// the same one, with no bytes as its info.
func bookThree(t *testing.T, chain api.Key, b []byte) [3]api.Key {
	t.Helper()
	out, err := hkdf.Key(newSummer, b, chain[:], "", 96)
	if err != nil {
		t.Fatal(err)
	}
	return [3]api.Key{api.Key(out[:32]), api.Key(out[32:64]), api.Key(out[64:])}
}

// chapterThree answers by the words of the chapter, with Go's own HMAC.
func chapterThree(chain api.Key, b []byte) [3]api.Key {
	tk := bookMac(chain[:], b)
	first := bookMac(tk[:], []byte{1})
	second := bookMac(tk[:], slices.Concat(first[:], []byte{2}))
	third := bookMac(tk[:], slices.Concat(second[:], []byte{3}))
	return [3]api.Key{first, second, third}
}

func tryMac(t *testing.T, key, b []byte, want string) {
	t.Helper()
	if got := Mac(key, b); !bytes.Equal(got[:], unhex(t, want)) {
		t.Errorf("Mac by %d bytes of %d: %x, want %s", len(key), len(b), got, want)
	}
}

// tryThree asks Three, and Two with it: the first two of them.
func tryThree(t *testing.T, chain api.Key, b []byte, want [3]api.Key) {
	t.Helper()
	three, two := Three(chain, b), Two(chain, b)
	for i, k := range want {
		if three[i] != k {
			t.Errorf("Three(%x) of %d bytes: key %d is %x, want %x", chain, len(b), i, three[i], k)
		}
	}
	for i, k := range want[:2] {
		if two[i] != k {
			t.Errorf("Two(%x) of %d bytes: key %d is %x, want %x", chain, len(b), i, two[i], k)
		}
	}
}

// P7.1: keys and texts about the ends of blocks, in all pairs, as another
// program (Python's hmac with hashlib) answers them.
func TestMacWritten(t *testing.T) {
	sizes := [7]int{0, 1, 63, 64, 65, 128, 1000}
	for _, c := range []struct {
		key  int
		want [7]string
	}{
		{0, [7]string{
			"eaf4bb25938f4d20e72656bbbc7a9bf63c0c18537333c35bdb67db1402661acd",
			"b9e3ead2585f8bc6077e76aa5c21a0e3beddb894561e73c53772dfe45ebe86cd",
			"28b4191df59484fdca8a93c20b2629861592e60ff51db87e276a35f560f8c130",
			"3ee41d24eac75a8c5723be6ef15d813ce95352f1b327c8dad0bdeb11c4566009",
			"a39e7a1845c567d0d23524f76168ecd2520e4563d3a88d34b92b7870ce4d6c9e",
			"3b046f0b9dbc8d02014f066f34ea393658ddd078f1844533df5ab041ce3d2d56",
			"0be79aaa5b8f9182f536cc8112f352d4d5c503b13b2ab558bc5bdd8e82c99201",
		}},
		{1, [7]string{
			"79425d94ebbe6cb0677d3c6ede74f6cc21b700e140440176dd9587146f4746b3",
			"14e9fee015b4c0e6afe94ceb5901e41cc81576d0e526575e5a909c44a1076cf9",
			"a08258caa927a3f7ef964e84f8c6db0d107c59c20d52127998ca50c39b606427",
			"515a2a4738f71130d5043a6bdddce31e36207d8863dad4e13c97633de0fbb2b9",
			"15ae649438d85ee17fa935bfc0da9b6996722153ed8ac796239ea15400ef0738",
			"7f82e8c02d14eddcacaacc9a3511d1081048327c3cb4bbb82015ef7c488e95c2",
			"a5b26ef20c3d75e9c7cca2ae0d4fc18e4751e31086568d6bc9c81d42db13d0e1",
		}},
		{31, [7]string{
			"ca94ce89df07d910698c8e1397fd5daa081f17d61788a2a7e3396718b7a94792",
			"e2aaa312503bf1057b5186c132157aa406b674edb2fc838c7db5f927fdd6dd3d",
			"b0d9a4a4602ec763c1097498ea96fbef8d771da671acdf78dd4b00e53e41fe77",
			"6f78f8b987cca1bc78184d19a1e766e1d66f7ac32d45d66a6c052b1d43026bec",
			"e9ed2a542797108d813f18f8fe52734355076c895f28e7212961d0e075fb39fa",
			"0b20166470b23aa4ca2a23bf82fa78d33c4a977681e7b790365822f9b88e945f",
			"0d66d79f4e26d52061c54320620993643bbb5c8931fcc33c3795694b74e34716",
		}},
		{32, [7]string{
			"415e9b4d3980426d4035d9a83fea764b343f7268672ebf9a667a6c308967024a",
			"09941462b7dfe312100f1be05e5a9e2b49d35ee8ef6dd1278d2e009b09742ae2",
			"6769a71f6b68eb91621d25ebbec02cf0aa162ef8f84e36e55a21c6d06b5b6f0d",
			"af174bde08e489f0c5c82b623bfc8f0bf4b6ac0924df56ee3617a78e19956ee7",
			"0bd7d28f12005b69796c604a813e06c7090fb4670e26c3431078005482537558",
			"9e9478b93326578c1ce0cb6ef0078bb9a6cb03b0fc7f50ddb56f96dc73604160",
			"e089c00929282d1718eb2edb036969f38a8047f3287993b2a9acf339db650ea1",
		}},
		{33, [7]string{
			"5ce5186d0797776708fe191c8c5d4f98444e2863cd8615eb8c3833b050d37dbd",
			"462d65355421f83665458857ed70eec828da1b44b8f7155a4e980ba7802869ab",
			"489eb6ee2f74e8ab898ae8d85110da33b0a06c16ba4af49ed16d87dd7d831518",
			"7017346d7c2152e055fad5e5d5abbcfb5354843a028ea29b0458b919e3d1102d",
			"baa9c0fdd6ac1525e6c904215f2297ba4b4ab31439e497efc1c819d7cf106d3c",
			"5fe2b5281be249afe93ececff3ff1d87933bd09464c2318a55fcc455f0a22bc3",
			"304a636ef3888836bb01002c82ef0bf0aecfaa33187d06c52755e70d71e36e13",
		}},
		{63, [7]string{
			"33015d43ef22a38e057d075b98ff09077adab90e3918fe598c6e07496decbaa9",
			"7cd0591149e5f4ce6abc118d5f164047b56c26a01b21965a083be880758f7dfc",
			"b7c52d4b1574d21f486abc6219cc4a3a698940c738568d1e756a3a5845845965",
			"3f1adbfd94a96c9b9fda376bc670d16fad11409d361a5b98353411f8c6416413",
			"a83e90e2b5681a52ae784aad055ee8d9d486774c7bb49f8277f650fd5d8d9792",
			"42cf4c9d94d84009efd26824da603d634e137624b8ca8ea07691c89a1c8f4a38",
			"eae9d6c3f0378158be4c9f15abd90742a50554fb02bed56418dcec770aa5b169",
		}},
		{64, [7]string{
			"71538c31b1d4e5d3b7b03f9579904f45ff45ec61fe737940de42ebf3747f3300",
			"88764db85fd1c2dfa587f51b35529ce562baf8dd3c7f0fe5c9946cae32406443",
			"668da8735b8640d32719e818273a66c01c1c915ab8f766d0972858ca924b7bdc",
			"b63657cc5c49dad7a51f5b90b9516d6083183c5ea68acfd732487b7e52cc9082",
			"ef2667e3f46965073d297d2194e25559e080742fdeb62f96a1fd463a29f5817b",
			"a0a0eed7b56bff9d98411d5ede47652f8f85da266a440f28bb59eff10aabf509",
			"72cd7f97914e322f8629031f94977bd2cbbedcfa0f056d29a302d261dd66f555",
		}},
		{65, [7]string{
			"ba8b98351a466fbd84d17ad59e310e7e9cff60feb25108c16b7b5383936bf9c9",
			"a1ec5deb334eae212cc9acbd07bcc598db63351207b6feed0881b47e48b41763",
			"4604960f9f23ec7eefdeb49c6702130987af47b8ebc3be1826cecbc93b61e635",
			"0caf766e60263bf2e9659a17a71723d03b79f9410f9f5132aa8f3960e6d0fba2",
			"6ca88b4160ad09d1d1f350a14103f16a175e99bacfef40982773b521784e8a1b",
			"f33f6a704449d3329a6512ea894c3810322fc2c81a70f36f60727bc7465bb986",
			"c791e944e6be3de534b995781e6ba95f9085623e7fabd9242dabf915a27b8541",
		}},
		{128, [7]string{
			"3e65f1605ca39be04bff7d81131f0b2ce5285b05e0ca7162f7dde0541352c163",
			"6ba8f3563739b889cfdca06d7d238fd7571b2ef6eb5fa23892c2e0a7783fd58d",
			"600265a9e74d2c752da234443c0d5c5691005b51752160bb117003ce6da8703c",
			"10f41eed78ca411266a29857bc27cf777f2c3b6086b639f449aa25ab5fdae70e",
			"2a5f0d3d80ebffe0da1c34aa0aba12817093a5bede599d67a7337d33874c8a64",
			"b5beb3305d94099630ca797bf31dff143e376f968ef8b9ee4d699f2d8f49ae86",
			"1b0fcba57e44fde2497404a9cc0fa33474e626c73f92b4c420667fb062096949",
		}},
		{129, [7]string{
			"7979fec25021c64a92762fd626599d53be4bac52e025fec41b06e2680b8ec4bd",
			"61b0e3ce47a41674152b9249152e7d80cbeeb9fd3e8ebc6f095ae64554f8d2a2",
			"bc13fe42334f8c810ec07ff01fe60e214891913f0d031f01bb5192d23591bd80",
			"17315aee51cf64503a608ceecb489cdf383e0dd04b53e04fbdacac2278ebc1ca",
			"a2179be872f0980f8b6d32e03d40805c05a74d493794d714b8823e445623bcf8",
			"74f8360c0c65600f21fa693a3e8b5cae5af5e6fb7ea203d3af862a88ad8be2c7",
			"803396602679dc2ad17462adfd2488d3d9a10f03382480a0562e2dad51588aef",
		}},
	} {
		for i, want := range c.want {
			tryMac(t, rising(c.key), falling(sizes[i]), want)
		}
	}
}

// P7.1: one byte so often as key and as text, those that keys are turned by
// among them, as another program (Python's hmac with hashlib) answers them.
func TestMacSame(t *testing.T) {
	for _, c := range []struct {
		k    byte
		key  int
		x    byte
		size int
		want string
	}{
		{0x00, 0, 0x00, 0, "eaf4bb25938f4d20e72656bbbc7a9bf63c0c18537333c35bdb67db1402661acd"},
		{0x00, 64, 0x00, 64, "59a518e1a2174420aac8f66e8c2be0ea05123bc6efd2fed957973972a0ca45cf"},
		{0x00, 65, 0x00, 65, "fa99aa4427ba1770ba8e85a597c605f8195b49f265f275bb72495d9036c3f6d5"},
		{0xff, 64, 0xff, 64, "6fd0f560aa3f27b82717691ed4c78a6f8d6826a34bb7e9b0165a576cb6f0847e"},
		{0xff, 65, 0xff, 65, "35ed6ec203d1c1ef623d3150d7129b5ac679b95d438ec87bfe9addba5b2cd3a8"},
		{0x36, 64, 0x36, 64, "26e72ff14b6c85754d89257fbb4b0679f7bbf9752b34f2115cc41918211f2237"},
		{0x5c, 64, 0x5c, 64, "d94c2ce8ac57e27c3e55807876acb61dc0bf09242e9048a563850c77cd616817"},
		{0xff, 32, 0x00, 32, "1df395a9f52c6337ab951a642bc47beb76ae0e0fdaa25042605001bce63babc8"},
		{0x36, 32, 0x5c, 1, "49ab5b2c2296f7ba1086dc715dc43c144a42470b98555eccc1ea6fe266aea1f8"},
	} {
		tryMac(t, of(c.k, c.key), of(c.x, c.size), c.want)
	}
}

// P7.1: the texts of RFC 4231, as another program (Python's hmac with hashlib)
// answers them.
func TestMacTexts(t *testing.T) {
	for _, c := range []struct {
		key  []byte
		text string
		want string
	}{
		{of(0x0b, 20), "Hi There", "65a8b7c5cc9136d424e82c37e2707e74e913c0655b99c75f40edf387453a3260"},
		{[]byte("Jefe"), "what do ya want for nothing?", "90b6281e2f3038c9056af0b4a7e763cae6fe5d9eb4386a0ec95237890c104ff0"},
		{of(0xaa, 20), string(of(0xdd, 50)), "fcc4f59529502e34c3d8da3ffdab82966a2cb637ff5e9bd701135c2e9469e790"},
		{rising(25), string(of(0xcd, 50)), "464434dcbece095d456a1d62d6ec56f898e625a39e5c52bdf94daf111bad83aa"},
		{of(0xaa, 131), "Test Using Larger Than Block-Size Key - Hash Key First",
			"d23d79394f53d536a096e6514447eeaabb05ded01be32c1937da6a8f7103bc4e"},
		{of(0xaa, 131), "This is a test using a larger than block-size key and a larger than block-size data. " +
			"The key needs to be hashed before being used by the HMAC algorithm.",
			"cb60f6a791f140bf8aa2e51ff358cdb2cc5c0333045b7fb77aba7ab3b0cfb237"},
	} {
		tryMac(t, c.key, []byte(c.text), c.want)
	}
}

// P7.1: all lengths of keys and texts up to 139: against Go's own HMAC, and by
// the sum of them all, as another program (Python's hmac) answers it.
func TestMacLengths(t *testing.T) {
	var all []byte
	for key := range 140 {
		for size := range 140 {
			k := Mac(rising(key), falling(size))
			if want := bookMac(rising(key), falling(size)); k != want {
				t.Fatalf("Mac by %d bytes of %d: %x, want %x", key, size, k, want)
			}
			all = append(all, k[:]...)
		}
	}
	if got := blake.Sum(all); hex.EncodeToString(got[:]) != "43514e67a26c9adbccb0b832ece083116d51a2b2ba6cf6573936944cb0738c70" {
		t.Errorf("the sum of all is %x", got)
	}
}

// P7.1: drawn keys and texts, long ones too.
func TestMacDrawn(t *testing.T) {
	r := rand.New(rand.NewSource(1))
	for range 2000 {
		key, b := drawBytes(r, r.Intn(300)), drawBytes(r, r.Intn(2000))
		if got, want := Mac(key, b), bookMac(key, b); got != want {
			t.Fatalf("Mac(%x, %x): %x, want %x", key, b, got, want)
		}
	}
}

// P7.1: a key of more than 64 bytes is its sum, one of 64 or less is itself.
func TestMacLongKeys(t *testing.T) {
	for key := range 300 {
		sum := blake.Sum(rising(key))
		for _, size := range []int{0, 1, 64, 100} {
			same := Mac(rising(key), falling(size)) == Mac(sum[:], falling(size))
			if same != (key > 64) {
				t.Fatalf("%d bytes and their sum as keys: alike %t", key, same)
			}
		}
	}
}

// P7.1: a shorter key has noughts behind it, up to 64 bytes and no further; no
// noughts are put ahead of it.
func TestMacShortKeys(t *testing.T) {
	b := falling(10)
	for key := range 65 {
		want := Mac(rising(key), b)
		for more := range 80 {
			padded := append(rising(key), make([]byte, more)...)
			if same := Mac(padded, b) == want; same != (key+more <= 64) {
				t.Fatalf("%d bytes with %d noughts behind them: alike %t", key, more, same)
			}
		}
		if key > 0 && Mac(append([]byte{0}, rising(key)...), b) == want {
			t.Fatalf("%d bytes with a nought ahead of them: alike", key)
		}
	}
	if Mac(rising(64), b) == Mac(rising(63), b) {
		t.Errorf("the last byte of a key of 64 is not asked")
	}
}

// P7.1: noughts behind a text are bytes of it, and key and text don't run together.
func TestMacApart(t *testing.T) {
	for size := range 130 {
		b := falling(size)
		if Mac(rising(32), b) == Mac(rising(32), append(b, 0)) {
			t.Fatalf("%d bytes, with and without a nought behind them: alike", size)
		}
	}
	all := rising(64)
	seen := map[api.Key]int{}
	for cut := range 65 {
		k := Mac(all[:cut], all[cut:])
		if other, ok := seen[k]; ok {
			t.Fatalf("cut at %d and at %d: alike", other, cut)
		}
		seen[k] = cut
	}
}

// P7.1: each bit of a key and of a text is asked.
func TestMacBits(t *testing.T) {
	key, b := rising(64), falling(70)
	want := Mac(key, b)
	for _, l := range [][]byte{key, b} {
		for i := range 8 * len(l) {
			l[i/8] ^= 1 << (i % 8)
			if got := Mac(key, b); got == want || got != bookMac(key, b) {
				t.Fatalf("bit %d of %d bytes turned: %x", i, len(l), got)
			}
			l[i/8] ^= 1 << (i % 8)
		}
	}
}

// P7.1, P7.2: none is none, with or without a list, and with spare room.
func TestNone(t *testing.T) {
	none := [][]byte{nil, {}, rising(64)[:0]}
	for _, key := range none {
		for _, b := range none {
			tryMac(t, key, b, "eaf4bb25938f4d20e72656bbbc7a9bf63c0c18537333c35bdb67db1402661acd")
		}
	}
	for _, b := range none {
		tryThree(t, api.Key{9}, b, chapterThree(api.Key{9}, nil))
	}
}

// P7.1: more bytes than package blake adds piece by piece. Mac has no error to
// tell it by: it is as another program (Python's hmac) answers it.
func TestMacMost(t *testing.T) {
	if testing.Short() {
		t.Skip("this takes some seconds")
	}
	b := make([]byte, api.MaxNumber+1)
	tryMac(t, []byte("key"), b, "a9680a9df38a751c78b83e362e065167dce09938d4527d878a3f921b2c647e8c")
}

// P7.2: the answers that WireGuard's Go program has among its tests, for the HKDF
// of the Noise protocol by BLAKE2s. Its keys are shorter than a chain: as P7.1
// says, noughts behind them change nothing.
func TestThreeWireGuard(t *testing.T) {
	for _, c := range []struct {
		chain, text string
		want        [3]string
	}{
		{"test-key", "test-input", [3]string{
			"6f0e5ad38daba1bea8a0d213688736f19763239305e0f58aba697f9ffc41c633",
			"df1194df20802a4fe594cde27e92991c8cae66c366e8106aaa937a55fa371e8a",
			"fac6e2745a325f5dc5d11a5b165aad08b0ada28e7b4e666b7c077934a4d76c24",
		}},
		{"wireguard", "wireguard", [3]string{
			"491d43bbfdaa8750aaf535e334ecbfe5129967cd64635101c566d4caefda96e8",
			"1e71a379baefd8a79aa4662212fcafe19a23e2b609a3db7d6bcba8f560e3d25f",
			"31e1ae48bddfbe5de38f295e5452b1909a1b4e38e183926af3780b0c1e1f0160",
		}},
		{"", "", [3]string{
			"8387b46bf43eccfcf349552a095d8315c4055beb90208fb1be23b894bc2ed5d0",
			"58a0e5f6faefccf4807bff1f05fa8a9217945762040bcec2f4b4a62bdfe0e86e",
			"0ce6ea98ec548f8e281e93e32db65621c45eb18dc6f0a7ad94178610a2f7338e",
		}},
	} {
		var chain api.Key
		copy(chain[:], c.chain)
		tryThree(t, chain, []byte(c.text), keysOf(t, c.want))
	}
}

func keysOf(t *testing.T, s [3]string) [3]api.Key {
	t.Helper()
	return [3]api.Key{api.Key(unhex(t, s[0])), api.Key(unhex(t, s[1])), api.Key(unhex(t, s[2]))}
}

// P7.2: chains and bytes, as another program (Python's hmac with hashlib) answers them.
func TestThreeWritten(t *testing.T) {
	for _, c := range []struct {
		chain []byte
		size  int
		want  [3]string
	}{
		{rising(32), 0, [3]string{
			"4e9bc273c44009a18dec0963c4497767831058da3e1172da2694015276336e74",
			"900daf1ebdc69c7f2089e989eabd9aa16a71be745b6dc044971dbc56cbec8da4",
			"b3961d09006d30ed06883451dad9399f0ed9c84c9cf5fe90bcd62dcc631f26c8",
		}},
		{rising(32), 1, [3]string{
			"8bb67706019bd88cf2bb13ef48f3e6bf300ed26f3c2fa810a5737d35e31b50e9",
			"a5f78919b9538640b272696a163f12a450bc1ac9d0feeb6a3ded97c744bee737",
			"e3163cba45c22ebc55703b0e9a82e67d8ee8255cdfdf974238ed4e8c5542bd95",
		}},
		{rising(32), 32, [3]string{
			"1ec93073b1eb8544fceed7359f5c25dba6d56e030fcb08a0289e0c18ae338b1e",
			"2c63cf9a9c5b70b37f5fb3e1780187fd978e4b301d2326caf757c8b7c1f0a957",
			"bfb3f3eac48de6492c004b5e3058dea9143b64e465a502d6f5ac70ecf315e4a7",
		}},
		{rising(32), 33, [3]string{
			"8ee2d97d829ded79577ea21fb78ecbc93085b737e844329850e1ae893ab332da",
			"ea4ce30e99d60afc8df83987b400d8aacc3395ea6528f965761e9d1d3d59ca08",
			"0501a9f29856dfa3c170390ff644cdc1925e8c651f70d31cf5452b219d453246",
		}},
		{rising(32), 64, [3]string{
			"d8a03ae5f431461d42299efe416ee85239eeff3cd8bc1cbd8c517eec738cfb26",
			"e70acdea1f410f49e7301187f282c61987e55be0ab8ca510341d362ea65d9519",
			"2f67e6a0e7493ba1200785d09d2dfec96e5be75f48ba6413f72c877157b0ae1b",
		}},
		{rising(32), 200, [3]string{
			"b78cd9410baf3083bff9dc141da5181e7972d80e6fde9df5638851d1b4f65963",
			"76d8b9f99a26f88eee8ca0e297882356804a17d1a21965dc8c5e239eca4d7e75",
			"818eacabdceac973f7a2166df151702983f55e4ad632b76bebde70f2f652d175",
		}},
		{of(0, 32), 0, [3]string{
			"8387b46bf43eccfcf349552a095d8315c4055beb90208fb1be23b894bc2ed5d0",
			"58a0e5f6faefccf4807bff1f05fa8a9217945762040bcec2f4b4a62bdfe0e86e",
			"0ce6ea98ec548f8e281e93e32db65621c45eb18dc6f0a7ad94178610a2f7338e",
		}},
		{of(0, 32), 1, [3]string{
			"abee226d9a0375ee7e82dbf93e7211eba6242cf0430c42a2049629f596302f28",
			"8453359f7eaa6843085033c59977bbe54b884eac7f8c415b9a031a271b634bac",
			"c3773b8a914a06ef74e2aa60462f4692c563bd0388b220f1a96615de839f7335",
		}},
		{of(0, 32), 32, [3]string{
			"7f9d0e8e39a8323883c8e7ce7318cfa7325acfac7dbda380f9b05e12ac326080",
			"e130b18275db413f177dd520f81459b7ef9f685d28246454db057215d01ead22",
			"8b7f35c8ecb06615d3184711116d965d95541cb5100c4b60b8e8ffbb6f456045",
		}},
		{of(0, 32), 33, [3]string{
			"7d54f89b1bb64307a30bdcf436dba1a4c051e876b3def132e77f54fbee8cd818",
			"a6935de9e18a5e7a67388c83ca02f6724e4a56e6f856227a97917e7e87ae031e",
			"9edda994d2167bff9b3dc03f55438912b4c46ea88f351974cab992d16db08afe",
		}},
		{of(0, 32), 64, [3]string{
			"a7a6ada462ae37bdd5c58eee028153f50f88693efebef19811d50a4363916567",
			"9e3dab2d930115779b76adadf9c6c300b0bdf9b366aeac1436a9df72e20cbf52",
			"0dd176a641df3c9ebbc01dbf6f53d433fdc4cfa585aca5585c7e6ef42771e2bf",
		}},
		{of(0, 32), 200, [3]string{
			"7e1571fe3dc2e599d9d8b1a8b17f8e83648f4bd928509c6ad4248a64b123349a",
			"9028a56dc365286cbd8d57d869d0c28dc963fafdf55807cb15b7be8944882734",
			"f926d98de8e02e7ded96f5d7ce5ac4284f2007d5f85936dc5cbf5aad0d23ddfa",
		}},
		{of(255, 32), 0, [3]string{
			"2242fd0f7a754a7597f2b500c91e28b9ccdad38b7b341d867eaeaf1e5f0768ec",
			"6b767b8871518e98ddb3bac72e12e89d5b7f3a42b289a82ad66551c4b893b6b5",
			"e9e562cb794059bcfdbf8abf3c3669b42c8d9cc47134773311ff467e00619339",
		}},
		{of(255, 32), 1, [3]string{
			"d910516139d87f5b21116a566a26bb95848bd11df16e90288686f1098d1c2546",
			"3fe36f14b858bb871e799ab732dbd58b81dbea79f7bc7c7268c51fdddc8c9638",
			"0b39339daf19ae2a9b6046dfe5f3c21913dfe70c6ca32c29714b239a403701d1",
		}},
		{of(255, 32), 32, [3]string{
			"67e18a101b3fbc2464139d5fae3ceb20be339b1e099523b1450b2fe3c7764068",
			"83200f356e8311603042ddb7382f54c8d418b2cf6e3f985bcd5c6bf84b776d61",
			"b5594720d5ae1c2cdb4ac8bc7b05075ba7f86509535a15f92ae4c13de6ea1830",
		}},
		{of(255, 32), 33, [3]string{
			"2da6e683150c4dd7f788bf283c21826e60d862d83d269ebcaa5dbdc3234a0525",
			"32be7af2ad2ae94cfdb10216ff18c72bfc88fc0edfd649eec2d5c7d568690521",
			"48b6db5497b8aca2e94bf77fc8c426de52f0e01f1186f658f5867c254e1eb7f9",
		}},
		{of(255, 32), 64, [3]string{
			"4b8b26fbd0067a87fa2210e8bd6eb4f0d0378f3224a0bf05a73e4e00ffe711c6",
			"4c82664e6d6a20294632d4d08199199e722d2969dce10f63f8322279c9e2bd8a",
			"842fe233f56b93259ec2ac297b5055b7a34120d8b73754cd3bc705acc5fff322",
		}},
		{of(255, 32), 200, [3]string{
			"bbd8c907790494a3c01deff9826f73fef693b9eb8e632230d2026ebee0a040b3",
			"03bc5b5e8a46ed125bc63cc92f3739707733b3c7bc3b1e59ec0199e8ecdabc25",
			"eb2d32922f0d749d7375172f79cb4fef48d799d5d9d24c6f63d7295b1515dd41",
		}},
	} {
		tryThree(t, api.Key(c.chain), falling(c.size), keysOf(t, c.want))
	}
}

// P7.2: all lengths from none to 299: by the words of the chapter, against Go's own
// HKDF, and by the sum of them all, as another program (Python's hmac) answers it.
func TestThreeLengths(t *testing.T) {
	var all []byte
	for size := range 300 {
		chain := blake.Sum([]byte{byte(size)})
		tryThree(t, chain, falling(size), chapterThree(chain, falling(size)))
		tryThree(t, chain, falling(size), bookThree(t, chain, falling(size)))
		for _, k := range Three(chain, falling(size)) {
			all = append(all, k[:]...)
		}
	}
	if got := blake.Sum(all); hex.EncodeToString(got[:]) != "76aa8de663352509f0d252b851c775df2345036b529225f498c07c4024012278" {
		t.Errorf("the sum of all is %x", got)
	}
}

// P7.2: each key is the Mac, by T, that the chapter says it is: of the key ahead
// of it and its number.
func TestThreeByMac(t *testing.T) {
	r := rand.New(rand.NewSource(2))
	for _, size := range []int{0, 1, 31, 32, 33, 63, 64, 65, 200, 1000} {
		chain, b := api.Key(drawBytes(r, 32)), drawBytes(r, size)
		tk := Mac(chain[:], b)
		three, two := Three(chain, b), Two(chain, b)
		first := Mac(tk[:], []byte{1})
		second := Mac(tk[:], slices.Concat(three[0][:], []byte{2}))
		third := Mac(tk[:], slices.Concat(three[1][:], []byte{3}))
		if three != [3]api.Key{first, second, third} || two != [2]api.Key{first, second} {
			t.Fatalf("%x and %x: %x and %x, want %x, %x, %x", chain, b, three, two, first, second, third)
		}
	}
}

// P7.2: drawn chains and bytes.
func TestThreeDrawn(t *testing.T) {
	r := rand.New(rand.NewSource(3))
	for range 1000 {
		chain, b := api.Key(drawBytes(r, 32)), drawBytes(r, r.Intn(500))
		tryThree(t, chain, b, bookThree(t, chain, b))
	}
}

// P7.2: each bit of a chain and of what is mixed in changes all three keys.
func TestThreeBits(t *testing.T) {
	chain, b := api.Key(rising(32)), falling(32)
	was := Three(chain, b)
	for _, l := range [][]byte{chain[:], b} {
		for i := range 8 * len(l) {
			l[i/8] ^= 1 << (i % 8)
			got := Three(chain, b)
			for j := range got {
				if got[j] == was[j] {
					t.Fatalf("bit %d of %d bytes turned: key %d is the same", i, len(l), j)
				}
			}
			l[i/8] ^= 1 << (i % 8)
		}
	}
}

// P7.1, P7.2: no argument is changed, nor what lies behind it in a longer list; a
// second answer is the same one.
func TestArgumentsStay(t *testing.T) {
	r := rand.New(rand.NewSource(4))
	for _, key := range []int{0, 1, 31, 32, 33, 63, 64, 65, 128, 129} {
		for _, size := range []int{0, 1, 32, 63, 64, 65, 200} {
			// Key and bytes lie one behind the other: who writes behind the key spoils the bytes.
			room := drawBytes(r, key+size+200)
			before := slices.Clone(room)
			k, b := room[:key], room[key:key+size]
			chain := api.Key(drawBytes(r, 32))
			kept := chain
			mac, three, two := Mac(k, b), Three(chain, b), Two(chain, b)
			if !bytes.Equal(room, before) || chain != kept {
				t.Fatalf("a key of %d bytes and %d bytes: an argument was changed", key, size)
			}
			if mac != Mac(k, b) || three != Three(chain, b) || two != Two(chain, b) {
				t.Fatalf("a key of %d bytes and %d bytes: the second answer is another one", key, size)
			}
			if mac != bookMac(slices.Clone(k), slices.Clone(b)) || three != chapterThree(chain, slices.Clone(b)) {
				t.Fatalf("a key of %d bytes and %d bytes: another answer within a longer list", key, size)
			}
		}
	}
}

// P7.1, P7.2: key and bytes may lie over one another.
func TestOverlap(t *testing.T) {
	all := rising(200)
	for i := 0; i <= 130; i += 13 {
		for j := 0; j <= 130; j += 13 {
			key, b := all[:i], all[j:j+70]
			if got, want := Mac(key, b), bookMac(slices.Clone(key), slices.Clone(b)); got != want {
				t.Fatalf("the first %d bytes, and 70 from %d on: %x, want %x", i, j, got, want)
			}
		}
	}
	chain := api.Key(rising(32))
	tryThree(t, chain, chain[:], chapterThree(chain, rising(32)))
}

// P7.1: lists that are joined are new memory, however many they are.
func TestJoined(t *testing.T) {
	room := rising(100)
	for _, c := range [][][]byte{
		nil, {nil}, {{}, nil}, {room[:0]}, {room[:5]}, {room[:5], room[5:9]}, {room[:5], nil, room[2:3], room[:64], {}},
	} {
		got := joined(c...)
		if want := bytes.Join(c, nil); !bytes.Equal(got, want) {
			t.Errorf("%x: %x, want %x", c, got, want)
		}
		clear(got[:cap(got)])
		if !bytes.Equal(room, rising(100)) {
			t.Fatalf("%x: what was joined shares memory", c)
		}
	}
}

// P7.2: what is answered is new: whoever changes it changes no later answer.
func TestAnswersNew(t *testing.T) {
	chain, b := api.Key(rising(32)), falling(32)
	want := chapterThree(chain, b)
	three, two := Three(chain, b), Two(chain, b)
	three[0], three[2], two[1] = api.Key{}, api.Key{}, api.Key{}
	tryThree(t, chain, b, want)
}
