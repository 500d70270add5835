import Derived.Test.YtokkbdlofbdljaaGreatWr0
namespace Go.Proofs.YtokkbdlofbdljaaGreat
open Go.RowKit
set_option maxRecDepth 100000
set_option maxHeartbeats 8000000
theorem iv9ff (r:Rc) (A:RcA) (w:World) (lo hi:Nat) (hhi:hi≤w.1.size) (hf:ZR r) (hn:ZX r A) (hc:RcIn w lo hi r A) (HLD:Hid (r.ld=false)) (HTR:Hid (r.tr=false)) (h0:Yc r.num r.of=true) (h1:dkB r.sf=true) (h2:dkB r.dk=true) (h3:ZZ r=true) (h4:ZA r.wn r.ws=true) (h5:inB r.hd 0 1000000=true) (h6:numB r.of r.yn r.ys=true) (h7:slsB r.bn r.bs=true) (h8:aksB r.of r.an r.as_=true) (h9:Xw r=false) :
  Calls Tryz.prog 47 #[rcV r A] w fun e w'=>e=.returned (.bool false)∧Below w.1.size w w':=ivT
theorem iv10ff (r:Rc) (A:RcA) (w:World) (lo hi:Nat) (hhi:hi≤w.1.size) (hf:ZR r) (hn:ZX r A) (hc:RcIn w lo hi r A) (HLD:Hid (r.ld=false)) (HTR:Hid (r.tr=false)) (h0:Yc r.num r.of=true) (h1:dkB r.sf=true) (h2:dkB r.dk=true) (h3:ZZ r=true) (h4:ZA r.wn r.ws=true) (h5:inB r.hd 0 1000000=true) (h6:numB r.of r.yn r.ys=true) (h7:slsB r.bn r.bs=true) (h8:aksB r.of r.an r.as_=true) (h9:Xw r=true) (HUP:Hid (r.up=false)) (h10:YD r=false) :
  Calls Tryz.prog 47 #[rcV r A] w fun e w'=>e=.returned (.bool false)∧Below w.1.size w w':=ivT
theorem iv11uff (r:Rc) (A:RcA) (w:World) (lo hi:Nat) (hhi:hi≤w.1.size) (hf:ZR r) (hn:ZX r A) (hc:RcIn w lo hi r A) (HLD:Hid (r.ld=false)) (HTR:Hid (r.tr=false)) (h0:Yc r.num r.of=true) (h1:dkB r.sf=true) (h2:dkB r.dk=true) (h3:ZZ r=true) (h4:ZA r.wn r.ws=true) (h5:inB r.hd 0 1000000=true) (h6:numB r.of r.yn r.ys=true) (h7:slsB r.bn r.bs=true) (h8:aksB r.of r.an r.as_=true) (h9:Xw r=true) (HUP:Hid (r.up=true)) :
  Calls Tryz.prog 47 #[rcV r A] w fun e w'=>e=.returned (.bool true)∧Below w.1.size w w':=ivT
theorem iv11bff (r:Rc) (A:RcA) (w:World) (lo hi:Nat) (hhi:hi≤w.1.size) (hf:ZR r) (hn:ZX r A) (hc:RcIn w lo hi r A) (HLD:Hid (r.ld=false)) (HTR:Hid (r.tr=false)) (h0:Yc r.num r.of=true) (h1:dkB r.sf=true) (h2:dkB r.dk=true) (h3:ZZ r=true) (h4:ZA r.wn r.ws=true) (h5:inB r.hd 0 1000000=true) (h6:numB r.of r.yn r.ys=true) (h7:slsB r.bn r.bs=true) (h8:aksB r.of r.an r.as_=true) (h9:Xw r=true) (HUP:Hid (r.up=false)) (h10:YD r=true) :
  Calls Tryz.prog 47 #[rcV r A] w fun e w'=>e=.returned (.bool true)∧Below w.1.size w w':=ivT
end Go.Proofs.YtokkbdlofbdljaaGreat
