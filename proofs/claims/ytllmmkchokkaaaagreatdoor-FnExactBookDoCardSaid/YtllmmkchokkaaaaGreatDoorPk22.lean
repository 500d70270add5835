import Derived.Test.YtllmmkchokkaaaaGreatDoorPk21
import Derived.Test.YtllmmkchokkaaaaGreatDoorPk15
import Derived.Shelf.Spec.SlicesGrow
import Derived.Laws.AppendOwnNone
set_option maxRecDepth 100000
namespace Go.Proofs.YtllmmkchokkaaaaGreatDoor
open Go.RowKit Go.Maps
theorem wpList_builtin_append {P:Program} {w w':World} {ops:Array Oper} {rest:List Oper} {o:Oper} {a:Act} {Q:Exit→Act→World→Prop} (hgd:o.guard=none) (s x:Operand) (t t':TypeId)
  (ho:o.op=.call { callee:=.builtin .append,args:=#[s,x],argTypes:=#[t,t'] }) (u u' v:Value) (hs:a.eval s=u) (hx:a.eval x=u') (hrun:(Builtin.append_ #[t,t'] o.type #[u,u']).run P w=.ok v w')
  (h:wpList P ops Q rest (a.put o.dst v) w'):wpList P ops Q (o::rest) a w:=by
 refine wpList_plain hgd fun K hK=>?_
 unfold Oper.wp
 simp [execOp,ho,resolve,invoke,builtin,hs,hx,hrun,Result.andThen]
 exact hK _ _ h
def flatN (f:Nat→List Value):Nat→List Value|0=>[]|k+1=>flatN f k ++ f k
structure SrcN (w:World) (z q:Nat) (A:Nat→Option Addr) (M C:Nat→Nat) (news:Nat→List Value):Prop where
 len:∀ j,j<q→(news j).length=M j*z
 one:∀ j,j<q→∀ u ∈ news j,u.oneCell'=true
 src:∀ j,j<q→(A j=none∧M j=0∧C j=0)∨∃ b off,A j=some ⟨b,off,none⟩∧b<w.1.size∧∀ t u,(news j)[t]? = some u→w.cell? ⟨b,off+t,none⟩=some u
theorem flat2 (f:Nat→List Value):flatN f 2=f 0 ++ f 1:=by simp [flatN]
theorem flat3 (f:Nat→List Value):flatN f 3=f 0 ++ f 1 ++ f 2:=by simp [flatN]
theorem sum2 (f:Nat→Nat):sumTo f 2=f 0+f 1:=by simp [sumTo]
theorem sum3 (f:Nat→Nat):sumTo f 3=f 0+f 1+f 2:=by simp [sumTo]
structure RowC (w:World) (z:Nat) (ad:Option Addr) (b off n cap:Nat) (cs:List Value):Prop where
 len:cs.length=n*z
 one:∀ u ∈ cs,u.oneCell'=true
 src:(ad=none∧n=0∧cap=0)∨(ad=some ⟨b,off,none⟩∧n≤cap∧b<w.1.size∧∀ t u,cs[t]? = some u→w.cell? ⟨b,off+t,none⟩=some u)
theorem RowC.grow {w w':World} {z:Nat} {ad:Option Addr} {b off n cap:Nat} {cs:List Value} (h:RowC w z ad b off n cap cs) (hb:Below w.1.size w w'):RowC w' z ad b off n cap cs:=
 ⟨h.len,h.one,by
  rcases h.src with h1|⟨h1,h2,h3,h4⟩
  ·exact Or.inl h1
  ·exact Or.inr ⟨h1,h2,Nat.lt_of_lt_of_le h3 hb.size,fun t u hu=>(hb.cell (p:=⟨b,off+t,none⟩) h3).trans (h4 t u hu)⟩⟩
def tlC (ad:Option Addr) (b off cap k z:Nat):Option Addr:=if cap=k then ad else some ⟨b,off+k*z,none⟩
theorem RowC.take {w:World} {z:Nat} {ad:Option Addr} {b off n cap:Nat} {cs:List Value} (h:RowC w z ad b off n cap cs) {k:Nat} (hk:k≤n) :
  (cs.take (k*z)).length=k*z∧(∀ u ∈ cs.take (k*z),u.oneCell'=true)∧((ad=none∧k=0∧cap=0)∨∃ b off,ad=some ⟨b,off,none⟩∧b<w.1.size∧∀ t u,(cs.take (k*z))[t]? = some u→w.cell? ⟨b,off+t,none⟩=some u):=by
 have hm:k*z≤n*z:=Nat.mul_le_mul_right z hk
 refine ⟨by rw [List.length_take,h.len,Nat.min_eq_left hm],fun u hu=>h.one u (List.mem_of_mem_take hu),?_⟩
 rcases h.src with ⟨h1,h2,h3⟩|⟨h1,h2,h3,h4⟩
 ·exact Or.inl ⟨h1,by omega,h3⟩
 ·refine Or.inr ⟨b,off,h1,h3,fun t u hu=>h4 t u ?_⟩
  rw [List.getElem?_take] at hu
  split at hu
  ·exact hu
  ·cases hu
theorem RowC.drop {w:World} {z:Nat} {ad:Option Addr} {b off n cap:Nat} {cs:List Value} (h:RowC w z ad b off n cap cs) {k:Nat} (hk:k≤n) :
  (cs.drop (k*z)).length=(n-k)*z∧(∀ u ∈ cs.drop (k*z),u.oneCell'=true)∧((tlC ad b off cap k z=none∧n-k=0∧cap-k=0)∨∃ b' off',tlC ad b off cap k z=some ⟨b',off',none⟩∧b'<w.1.size∧∀ t u,(cs.drop (k*z))[t]? = some u→w.cell? ⟨b',off'+t,none⟩=some u):=by
 refine ⟨by rw [List.length_drop,h.len,Nat.sub_mul],fun u hu=>h.one u (List.mem_of_mem_drop hu),?_⟩
 rcases h.src with ⟨h1,h2,h3⟩|⟨h1,h2,h3,h4⟩
 ·exact Or.inl ⟨by rw [tlC,if_pos (by omega)];exact h1,by omega,by omega⟩
 ·by_cases hck:cap=k
  ·refine Or.inr ⟨b,off,by rw [tlC,if_pos hck];exact h1,h3,fun t u hu=>?_⟩
   rw [List.drop_eq_nil_of_le (by rw [h.len];exact Nat.mul_le_mul_right z (by omega))] at hu
   cases hu
  ·refine Or.inr ⟨b,off+k*z,by rw [tlC,if_neg hck],h3,fun t u hu=>?_⟩
   rw [Nat.add_assoc]
   rw [List.getElem?_drop] at hu
   exact h4 _ u hu
theorem own_base {w:World} {base base' e z n:Nat} {v:Value} {xs:List Value} (h:w.ownsRow base e z v n xs) (hb:base'≤base):w.ownsRow base' e z v n xs:=
 ⟨h.1,by
  rcases h.2 with h1|⟨g,cap,cur,e1,e2,e3,e4⟩
  ·exact Or.inl h1
  ·exact Or.inr ⟨g,cap,cur,e1,Nat.le_trans hb e2,e3,e4⟩⟩
theorem own_grow {w w':World} {base e z n:Nat} {v:Value} {xs:List Value} (h:w.ownsRow base e z v n xs) (hb:Below w.1.size w w'):w'.ownsRow base e z v n xs:=
 ownsRow_fr h (FrP.of_below (P:=fun _=>False) hb) (fun _ _ h=>h)
end Go.Proofs.YtllmmkchokkaaaaGreatDoor
