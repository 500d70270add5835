import Derived.Test.YtofencldleijcaaGreatPk34
import Derived.Test.YtofencldleijcaaGreatPk39
import Derived.Defers
import Derived.Recover
set_option maxRecDepth 100000
namespace Go.Proofs.YtofencldleijcaaGreat
open Go.RowKit Go.Maps Go.Proofs.Tryz
theorem Pf (B:Bk)(x:Bu)(a1 a2 a3:OA)(c1 c2 c3:Nat)(u1 u2:OA)(d1 d2:Nat)(w:World)(hf:Dm B)(hv:Be (Hw B) 7=true)(hu:Ku x)(hbk:B7 w 0 w.1.size B a1 a2 a3)(hbu:Fl w 0 w.1.size x u1 u2):Calls prog 65 #[.agg (vB B a1 a2 a3 c1 c2 c3),.agg (vU x u1 u2 d1 d2)] w λe w'=>US B x w e w':=by
 by_cases h:10<x.wn\/10<x.rn;.exact eU B x a1 a2 a3 c1 c2 c3 u1 u2 d1 d2 w hbk hbu h
 .exact lQ B x a1 a2 a3 c1 c2 c3 u1 u2 d1 d2 w hf hv hu hbk hbu Zb Zb
structure eW (w:World)(B:Bk)(p:Pl)(d1 d2:Nat):Prop where
 o:E4 w B.on p.a1 d1
 h:E4 w B.hn p.a2 d2
 os:∀i,i<B.on->E4 w (B.os i).hn (p.A1 i) (p.C1 i)ak:∀b off,(p.a1=some ⟨b,off,none⟩\/p.a2=some ⟨b,off,none⟩)->off=0/\b<w.1.size
 fr:∀b,p.a1=some ⟨b,0,none⟩->∀j,w.frozen? ⟨b,j,none⟩=false
structure iY (W:World)(s0:Nat)(B:Bk)(p:Pl)(d1 d2 d3:Nat)(x:Bu)(ua ub:OA)(e1 e2:Nat):Prop where
 bk:D4 W s0 (Mu B p.a1 p.a2 p.a3 d1 d2 d3)bu:D4 W (s0+1) (iZ x ua ub e1 e2)did:AM W (s0+1+1) 7 (A7 XG)nd:G7 W (s0+1+1)num:AM W (s0+1+1+1) 1 (A7 [.i 0])nn:G7 W (s0+1+1+1)
theorem iY.frK{W W':World}{s0:Nat}{B:Bk}{p:Pl}{d1 d2 d3:Nat}{x:Bu}{ua ub:OA}{e1 e2:Nat}(h:iY W s0 B p d1 d2 d3 x ua ub e1 e2){Z:Nat->Prop}(hf:AB Z W W')(hZ:∀q,Z q->s0+1+1+1<q):iY W' s0 B p d1 d2 d3 x ua ub e1 e2:=by have hz:=h.num.lt;have hB:Below (s0+1+1+1+1) W W':=hf.below (λq hq e=>by have:=hZ q e;omega) Zb;exact⟨h.bk.below hB Zb,h.bu.below hB Zb,h.did.below hB Zb,h.nd.below hB Zb,h.num.below hB Zb,h.nn.below hB Zb⟩
theorem iY.below{W W':World}{s0:Nat}{B:Bk}{p:Pl}{d1 d2 d3:Nat}{x:Bu}{ua ub:OA}{e1 e2:Nat}(h:iY W s0 B p d1 d2 d3 x ua ub e1 e2)(hb:Below W.1.size W W'):iY W' s0 B p d1 d2 d3 x ua ub e1 e2:=h.frK (Ap (P:=λ_=>False) hb) (λ_ e=>e.elim)
end Go.Proofs.YtofencldleijcaaGreat
