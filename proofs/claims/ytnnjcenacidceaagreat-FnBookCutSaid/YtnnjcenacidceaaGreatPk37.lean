import Derived.Test.YtnnjcenacidceaaGreatPk31
import Derived.Test.YtnnjcenacidceaaGreatPk36
import Derived.Defers
import Derived.Recover
set_option maxRecDepth 100000
namespace Go.Proofs.YtnnjcenacidceaaGreat
open Go.RowKit Go.Maps Go.Proofs.Tryz
theorem S4 (B:Bk)(x:Bu)(a1 a2 a3:OA)(c1 c2 c3:Nat)(u1 u2:OA)(d1 d2:Nat)(w:World)(hf:BQ B)(hv:Bg (Me B) 7=true)(hu:OC x)(hbk:BF w 0 w.1.size B a1 a2 a3)(hbu:Lv w 0 w.1.size x u1 u2):Calls prog 88 #[.agg (vB B a1 a2 a3 c1 c2 c3),.agg (vU x u1 u2 d1 d2)] w λe w'=>Y8 B x w e w':=by
 by_cases h:10<x.wn\/10<x.rn;.exact pX B x a1 a2 a3 c1 c2 c3 u1 u2 d1 d2 w hbk hbu h
 .exact tN B x a1 a2 a3 c1 c2 c3 u1 u2 d1 d2 w hf hv hu hbk hbu Za Za
structure qE (w:World)(B:Bk)(p:Pl)(d1 d2:Nat):Prop where
 o:Lh w B.on p.a1 d1
 h:Lh w B.hn p.a2 d2
 os:∀i,i<B.on->Lh w (B.os i).hn (p.A1 i) (p.C1 i)ak:∀b off,(p.a1=some ⟨b,off,none⟩\/p.a2=some ⟨b,off,none⟩)->off=0/\b<w.1.size
 fr:∀b,p.a1=some ⟨b,0,none⟩->∀j,w.frozen? ⟨b,j,none⟩=false
structure rZ (W:World)(s0:Nat)(B:Bk)(p:Pl)(d1 d2 d3:Nat)(x:Bu)(ua ub:OA)(e1 e2:Nat):Prop where
 bk:Fl W s0 (Lk B p.a1 p.a2 p.a3 d1 d2 d3)bu:Fl W (s0+1) (sE x ua ub e1 e2)did:AN W (s0+1+1) 7 (AW iY)nd:Nw W (s0+1+1)num:AN W (s0+1+1+1) 1 (AW [.i 0])nn:Nw W (s0+1+1+1)
theorem rZ.frK{W W':World}{s0:Nat}{B:Bk}{p:Pl}{d1 d2 d3:Nat}{x:Bu}{ua ub:OA}{e1 e2:Nat}(h:rZ W s0 B p d1 d2 d3 x ua ub e1 e2){Z:Nat->Prop}(hf:Ay Z W W')(hZ:∀q,Z q->s0+1+1+1<q):rZ W' s0 B p d1 d2 d3 x ua ub e1 e2:=by have hz:=h.num.lt;have hB:Below (s0+1+1+1+1) W W':=hf.below (λq hq e=>by have:=hZ q e;omega) Za;exact⟨h.bk.below hB Za,h.bu.below hB Za,h.did.below hB Za,h.nd.below hB Za,h.num.below hB Za,h.nn.below hB Za⟩
theorem rZ.below{W W':World}{s0:Nat}{B:Bk}{p:Pl}{d1 d2 d3:Nat}{x:Bu}{ua ub:OA}{e1 e2:Nat}(h:rZ W s0 B p d1 d2 d3 x ua ub e1 e2)(hb:Below W.1.size W W'):rZ W' s0 B p d1 d2 d3 x ua ub e1 e2:=h.frK (Ar (P:=λ_=>False) hb) (λ_ e=>e.elim)
end Go.Proofs.YtnnjcenacidceaaGreat
