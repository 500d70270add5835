import Derived.Test.YtokkbdlofbdljaaGreatWc0
import Derived.Test.YtokkbdlofbdljaaGreatW
namespace Go.Proofs.YtokkbdlofbdljaaGreat
open Go.RowKit
set_option maxRecDepth 100000
set_option maxHeartbeats 8000000
theorem iv3 (r:Rc) (A:RcA) (w:World) (lo hi:Nat) (hhi:hi≤w.1.size) (hf:ZR r) (hn:ZX r A) (hc:RcIn w lo hi r A) (hl:Hid ((r.ld&&r.tr)=false)) (h0:Yc r.num r.of=true) (h1:dkB r.sf=true) (h2:dkB r.dk=true) (h3:ZZ r=false) :
  Calls Tryz.prog 47 #[rcV r A] w fun e w'=>e=.returned (.bool false)∧Below w.1.size w w':=ivS
theorem iv4 (r:Rc) (A:RcA) (w:World) (lo hi:Nat) (hhi:hi≤w.1.size) (hf:ZR r) (hn:ZX r A) (hc:RcIn w lo hi r A) (hl:Hid ((r.ld&&r.tr)=false)) (h0:Yc r.num r.of=true) (h1:dkB r.sf=true) (h2:dkB r.dk=true) (h3:ZZ r=true) (h4:ZA r.wn r.ws=false) :
  Calls Tryz.prog 47 #[rcV r A] w fun e w'=>e=.returned (.bool false)∧Below w.1.size w w':=ivS
theorem iv5 (r:Rc) (A:RcA) (w:World) (lo hi:Nat) (hhi:hi≤w.1.size) (hf:ZR r) (hn:ZX r A) (hc:RcIn w lo hi r A) (hl:Hid ((r.ld&&r.tr)=false)) (h0:Yc r.num r.of=true) (h1:dkB r.sf=true) (h2:dkB r.dk=true) (h3:ZZ r=true) (h4:ZA r.wn r.ws=true) (h5:inB r.hd 0 1000000=false) :
  Calls Tryz.prog 47 #[rcV r A] w fun e w'=>e=.returned (.bool false)∧Below w.1.size w w':=ivS
end Go.Proofs.YtokkbdlofbdljaaGreat
