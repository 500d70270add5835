import Derived.Test.YtofencldleijcaaGreatPk22
import Derived.Test.YtofencldleijcaaGreatPk11
import Derived.Deep.MidRow
import Derived.WalkKit
import Derived.LaidEql
import Derived.Stop.Asserts
import Derived.RowKitTokens
import Derived.Test.YtofencldleijcaaGreatPk19
import Derived.Test.YtofencldleijcaaGreatPk33
set_option maxRecDepth 100000
namespace Go.Proofs.YtofencldleijcaaGreat
open Go.RowKit Go.Maps Go.Proofs.Tryz
structure ZU (w:World)(B:Bk)(p:Pl)(d1 d2 K:Nat):Prop where
 o:E4 w B.on p.a1 d1
 h:E4 w B.hn p.a2 d2
 os:∀i,i<B.on->E4 w (B.os i).hn (p.A1 i) (p.C1 i)ak:∀b off,(p.a1=some ⟨b,off,none⟩\/p.a2=some ⟨b,off,none⟩)->off=0/\¬b=K
 fr:∀b,p.a1=some ⟨b,0,none⟩->∀j,w.frozen? ⟨b,j,none⟩=false
theorem ZU.grow{w w':World}{B:Bk}{p:Pl}{d1 d2 K:Nat}(h:ZU w B p d1 d2 K)(hb:Below w.1.size w w'):ZU w' B p d1 d2 K:=⟨h.o.grow hb.size,h.h.grow hb.size,λi hi=>(h.os i hi).grow hb.size,h.ak,λb e j=>by
  rcases h.o.2 with⟨e1,_,_⟩|⟨b',off,e1,e2⟩;.rw[e1]at e;cases e
  .rw[e1]at e;cases e;exact(hb.frozen (p:=⟨b,j,none⟩) e2).trans (h.fr b e1 j)⟩
def NB (W:World)(K:Nat)(A3:OA)(D3:Nat)(Y:Bk):Prop:=∃(p:Pl)(d1 d2 d3:Nat),AM W K 5 (A7 (Mu Y p.a1 p.a2 p.a3 d1 d2 d3))/\Kr W Y p/\ZU W Y p d1 d2 K/\¬Ot p Y K/\p.a3=A3/\d3=D3
theorem NB.grow{W W':World}{K:Nat}{A3:OA}{D3:Nat}{Y:Bk}(h:NB W K A3 D3 Y)(hb:Below W.1.size W W'):NB W' K A3 D3 Y:=by obtain⟨p,d1,d2,d3,h1,h2,h3,h4⟩:=h;exact⟨p,d1,d2,d3,h1.below hb h1.lt,h2.grow hb,h3.grow hb,h4⟩
end Go.Proofs.YtofencldleijcaaGreat
