import Derived.Test.YtnnjcenacidceaaGreatPk21
import Derived.Test.YtnnjcenacidceaaGreatPk12
import Derived.Deep.MidRow
import Derived.WalkKit
import Derived.LaidEql
import Derived.Stop.Asserts
import Derived.RowKitTokens
import Derived.Test.YtnnjcenacidceaaGreatPk18
import Derived.Test.YtnnjcenacidceaaGreatPk30
set_option maxRecDepth 100000
namespace Go.Proofs.YtnnjcenacidceaaGreat
open Go.RowKit Go.Maps Go.Proofs.Tryz
structure kV (w:World)(B:Bk)(p:Pl)(d1 d2 K:Nat):Prop where
 o:Lh w B.on p.a1 d1
 h:Lh w B.hn p.a2 d2
 os:∀i,i<B.on->Lh w (B.os i).hn (p.A1 i) (p.C1 i)ak:∀b off,(p.a1=some ⟨b,off,none⟩\/p.a2=some ⟨b,off,none⟩)->off=0/\¬b=K
 fr:∀b,p.a1=some ⟨b,0,none⟩->∀j,w.frozen? ⟨b,j,none⟩=false
theorem kV.grow{w w':World}{B:Bk}{p:Pl}{d1 d2 K:Nat}(h:kV w B p d1 d2 K)(hb:Below w.1.size w w'):kV w' B p d1 d2 K:=⟨h.o.grow hb.size,h.h.grow hb.size,λi hi=>(h.os i hi).grow hb.size,h.ak,λb e j=>by
  rcases h.o.2 with⟨e1,_,_⟩|⟨b',off,e1,e2⟩;.rw[e1]at e;cases e
  .rw[e1]at e;cases e;exact(hb.frozen (p:=⟨b,j,none⟩) e2).trans (h.fr b e1 j)⟩
def NB (W:World)(K:Nat)(A3:OA)(D3:Nat)(Y:Bk):Prop:=∃(p:Pl)(d1 d2 d3:Nat),AN W K 5 (AW (Lk Y p.a1 p.a2 p.a3 d1 d2 d3))/\KF W Y p/\kV W Y p d1 d2 K/\¬Ff p Y K/\p.a3=A3/\d3=D3
theorem NB.grow{W W':World}{K:Nat}{A3:OA}{D3:Nat}{Y:Bk}(h:NB W K A3 D3 Y)(hb:Below W.1.size W W'):NB W' K A3 D3 Y:=by obtain⟨p,d1,d2,d3,h1,h2,h3,h4⟩:=h;exact⟨p,d1,d2,d3,h1.below hb h1.lt,h2.grow hb,h3.grow hb,h4⟩
end Go.Proofs.YtnnjcenacidceaaGreat
