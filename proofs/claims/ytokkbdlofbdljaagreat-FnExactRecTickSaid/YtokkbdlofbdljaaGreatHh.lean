import Derived.Test.YtokkbdlofbdljaaGreatGzf
namespace Go.Proofs.YtokkbdlofbdljaaGreat
open Go.RowKit
set_option maxHeartbeats 8000000
def R7 (mk:(Nat→Value)→Array Value) (W:World) (v0 v2:Value) (F1 F3:Value→World→Prop) (F4:Value→Nat→Nat→World→Prop) (zs:Array Value) (Fin:Value→Value→World→Prop) (l:Array Bool) (a:Act) (X:World):Prop:=
 ∃ t:Nat→Value,a=⟨mk t,[]⟩∧l.size=7∧Below W.1.size W X ∧
  (l.getD 6 false=true→(∀ i,i<7→l.getD i false=true)∧Fin (t 4) (t 5) X) ∧
  (l.getD 6 false=false→(l.getD 0 false=true→t 0=v0)∧(l.getD 1 false=true→F1 (t 1) X)∧(l.getD 2 false=true→t 2=v2)∧(l.getD 3 false=true→F3 (t 3) X) ∧
   (l.getD 4 false=true→∃ lo hi,W.1.size≤lo∧F4 (t 4) lo hi X∧(l.getD 5 false=true→∃ b,t 5=.pointer (some ⟨b,0,none⟩)∧(b<lo∨hi≤b))) ∧
   (l.getD 5 false=true→∃ b,t 5=.pointer (some ⟨b,0,none⟩)∧W.1.size≤b∧Bx X b zs))
structure TS (W:World) (S b6 z6 b7 b9 b8 gx:Nat) (r:Rc) (A:RcA) (m:Ms) (ma:Option Addr) (mc:Nat) (O:Rc) (A2:RcA) (rx:Rc) (p3:RcP) (sx:Nat→Sl) (Ox:Rc) (p5:RcP):Prop where
 bx:Bx W S (rcC r A)
 mx:Bx W (S+1) (msC m ma mc)
 arg:RcIn W 0 S r A
 mar:SlsIn W 0 S ma m.n m.s
 v6:Bx W b6 (rcC O A2)
 i6:RcIn W (S+2) z6 O A2
 v7:Bx W b7 (rcC r p3.A)
 a7:RcAt W rx p3
 k7:∀ k,rbs p3 rx k→z6≤k∧k<b7
 v9:Bx W b9 (msC m (some ⟨gx,0,none⟩) m.n)
 a9:SlsAt W (some ⟨gx,0,none⟩) gx m.n sx
 k9:m.n≠0→b7<gx∧gx<b9
 v8:Bx W b8 (rcC O p5.A)
 a8:RcAt W Ox p5
 k8:∀ k,rbs p5 Ox k→b9<k∧k<b8
 o:S+1<b6∧b6<z6∧z6≤b7∧b7<b9∧b9<b8∧b8<W.1.size
section
variable {W W':World} {S b6 z6 b7 b9 b8 gx:Nat} {r:Rc} {A:RcA} {m:Ms} {ma:Option Addr} {mc:Nat} {O:Rc} {A2:RcA} {rx:Rc} {p3:RcP} {sx:Nat→Sl} {Ox:Rc} {p5:RcP}
end
theorem OA (k0:Nat) (x:Nat→Ms):∀ n,k0≤ZS k0 x n
 | 0=>lrf _
 | n+1=>ltr (OA k0 x n) (by show _≤ZS k0 x n+7+2*(x n).n;omega)
theorem OC (k0:Nat) (x:Nat→Ak):∀ n,k0≤ZT k0 x n
 | 0=>lrf _
 | n+1=>ltr (OC k0 x n) (by show _≤ZT k0 x n+1+(x n).n;omega)
theorem mkRc_ge (k0:Nat) (r:Rc):k0≤mkRc k0 r:=by
 have h1:=OC (kk6 k0 r) r.as_ r.an
 have h2:=OA (kk2 k0 r) r.hs r.hn
 unfold mkRc
 unfold kk6 kk5 kk4 kk3 at *
 unfold kk2 kk1 at *
 omega
end Go.Proofs.YtokkbdlofbdljaaGreat
