import Derived.Test.YtokkbdlofbdljaaGreatWc0
import Derived.Test.YtokkbdlofbdljaaGreatW
namespace Go.Proofs.YtokkbdlofbdljaaGreat
open Go.RowKit
set_option maxRecDepth 100000
set_option maxHeartbeats 8000000
theorem iv6 (r:Rc) (A:RcA) (w:World) (lo hi:Nat) (hhi:hi≤w.1.size) (hf:ZR r) (hn:ZX r A) (hc:RcIn w lo hi r A) (hl:Hid ((r.ld&&r.tr)=false)) (h0:Yc r.num r.of=true) (h1:dkB r.sf=true) (h2:dkB r.dk=true) (h3:ZZ r=true) (h4:ZA r.wn r.ws=true) (h5:inB r.hd 0 1000000=true) (h6:numB r.of r.yn r.ys=false) :
  Calls Tryz.prog 47 #[rcV r A] w fun e w'=>e=.returned (.bool false)∧Below w.1.size w w':=ivS
theorem iv7 (r:Rc) (A:RcA) (w:World) (lo hi:Nat) (hhi:hi≤w.1.size) (hf:ZR r) (hn:ZX r A) (hc:RcIn w lo hi r A) (hl:Hid ((r.ld&&r.tr)=false)) (h0:Yc r.num r.of=true) (h1:dkB r.sf=true) (h2:dkB r.dk=true) (h3:ZZ r=true) (h4:ZA r.wn r.ws=true) (h5:inB r.hd 0 1000000=true) (h6:numB r.of r.yn r.ys=true) (h7:slsB r.bn r.bs=false) :
  Calls Tryz.prog 47 #[rcV r A] w fun e w'=>e=.returned (.bool false)∧Below w.1.size w w':=ivS
theorem iv8 (r:Rc) (A:RcA) (w:World) (lo hi:Nat) (hhi:hi≤w.1.size) (hf:ZR r) (hn:ZX r A) (hc:RcIn w lo hi r A) (hl:Hid ((r.ld&&r.tr)=false)) (h0:Yc r.num r.of=true) (h1:dkB r.sf=true) (h2:dkB r.dk=true) (h3:ZZ r=true) (h4:ZA r.wn r.ws=true) (h5:inB r.hd 0 1000000=true) (h6:numB r.of r.yn r.ys=true) (h7:slsB r.bn r.bs=true) (h8:aksB r.of r.an r.as_=false) :
  Calls Tryz.prog 47 #[rcV r A] w fun e w'=>e=.returned (.bool false)∧Below w.1.size w w':=ivS
end Go.Proofs.YtokkbdlofbdljaaGreat
