import Derived.Test.YtllmmkchokkaaaaGreatDoorPk32
set_option maxRecDepth 100000
namespace Go.Proofs.YtllmmkchokkaaaaGreatDoor
open Go.RowKit Go.Maps
theorem cellsE_take (L:List EO) (k:Nat) (hk:k≤L.length):(cellsE L).take (k*7)=cellsE (L.take k):=by
 have h:cellsE L=cellsE (L.take k) ++ cellsE (L.drop k):=by rw [←cellsE_append,List.take_append_drop]
 rw [h,List.take_append_of_le_length (by rw [cellsE_len,List.length_take];omega),List.take_of_length_le (by rw [cellsE_len,List.length_take];omega)]
theorem cellsE_drop (L:List EO) (k:Nat) (hk:k≤L.length):(cellsE L).drop (k*7)=cellsE (L.drop k):=by
 have h:cellsE L=cellsE (L.take k) ++ cellsE (L.drop k):=by rw [←cellsE_append,List.take_append_drop]
 have hl:(cellsE (L.take k)).length=k*7:=by rw [cellsE_len,List.length_take];omega
 rw [h,←hl,List.drop_left]
theorem remL_E (L:List EO) (k:Nat) (hk:k<L.length):remL (cellsE L) k 7=cellsE (L.eraseIdx k):=by
 unfold remL
 rw [cellsE_take L k (by omega),cellsE_drop L (k+1) hk,←cellsE_append,List.eraseIdx_eq_take_drop_succ]
theorem insL_E (L:List EO) (k:Nat) (e:EO) (hk:k≤L.length):insL (cellsE L) (k*7) (encE e)=cellsE (L.take k ++ e::L.drop k):=by
 unfold insL
 rw [cellsE_take L k hk,cellsE_drop L k hk,List.append_assoc,cellsE_append]
 rfl
theorem rowC_E {w:World} {ad:Option Addr} {g cap:Nat} {L:List EO} (h:RowS w ad g cap L):RowC w 7 ad g 0 L.length cap (cellsE L):=
 ⟨cellsE_len L,cellsE_one L,by
  rcases h with ⟨h1,h2,h3⟩|⟨h1,h2,h3⟩
  ·exact Or.inl ⟨h1,by rw [h2];rfl,h3⟩
  ·exact Or.inr ⟨h1,h3,h2.lt,fun t u hu=>by rw [Nat.zero_add];exact h2.cells hu⟩⟩
def eoV (B:Bk) (E:EO):EO:=⟨⟨E.ob.kind,E.ob.name,B.now+1,E.ob.born,E.ob.text,E.ob.ending,E.ob.hn,E.ob.hs⟩,E.A,E.C,E.hb⟩
def L1 (B:Bk) (v:Wr) (L:List EO):List EO:=if foB B v then L.eraseIdx (plW B v) else L
def L2 (B:Bk) (v:Wr) (L:List EO) (E:EO):List EO:=if wGone B v then L1 B v L else (L1 B v L).take (plW B v) ++ eoV B E::(L1 B v L).drop (plW B v)
theorem stand_ver (x:Ob) (ve:Int):standB ⟨x.kind,x.name,ve,x.born,x.text,x.ending,x.hn,x.hs⟩=standB x:=rfl
theorem opOb_stand (B:Bk) (v:Wr) (a b:Int):standB (opOb B v a)=standB (opOb B v b):=by
 unfold opOb
 split
 ·rfl
 ·split
  ·rfl
  ·split
   ·rfl
   ·split<;>rfl
theorem gone_new {B:Bk} {v:Wr} (hf:fndIs B.os v.kind v.name B.on=false) (hc:wCode B v=0):wGone B v=false:=by
 have h0:oCode B v=0:=by
  by_cases h:oCode B v=0
  ·exact h
  ·unfold wCode at hc
   rw [if_neg h] at hc
   exact absurd hc h
 have h1:v.op=1:=by
  by_cases h:v.op=1
  ·exact h
  ·rw [(oc_none hf h).1] at h0
   cases h0
 unfold wGone wOb opOb
 rw [if_pos h1]
 rfl
def PstD (K:Nat) (B:Bk) (v:Wr) (L:List EO) (k1' k4:Value) (m:Nat) (ch:List Value) (E:EO) (X w':World):Prop:=
 PutR K E.ob B.now (wGone B v) k1' k4 (L2 B v L E).length m (cellsE (L2 B v L E)) ch X w'
theorem pst_of {w:World} {K g:Nat} {B:Bk} {v:Wr} {L:List EO} {a1:Option Addr} {c1:Nat} {k1 k1' k3 k4:Value} {m:Nat} {ch:List Value} (hin:WS w K g B v L a1 c1 k1 k3 k4) (hgK:¬g=K)
  (hkeep:∀ e ∈ L,∀ X,FrP (fun q=>q=K) w X→StrsIn X 0 X.1.size e.A e.ob.hn e.ob.hs)
  (TE:∀ (E:EO) (X0 X:World) (gn:Bool) (A':Option Addr) (C':Nat) (o:Value),Below w.1.size w X0→FrP (fun q=>q=K) X0 X→RowF X K 5 (vec [.int .i64 (B.now+1),k1,o,k3,k4])→Calls Tryz.prog 161 #[.pointer (some ⟨K,0,none⟩),.agg #[.int .i64 (B.now+1),.bool gn,.string E.ob.kind,.string E.ob.name,.int .i64 (B.now+1),.int .i64 E.ob.born,.string E.ob.text,.bool E.ob.ending,.slice A' E.ob.hn C']] X fun e w'=>e=.returned (.tuple #[])∧∃ a4 c4,w'.ownsRow X.1.size 120 9 (.slice a4 m c4) m (ch ++ [.int .i64 (B.now+1),.bool gn,.string E.ob.kind,.string E.ob.name,.int .i64 (B.now+1),.int .i64 E.ob.born,.string E.ob.text,.bool E.ob.ending,.slice A' E.ob.hn C'])∧RowF w' K 5 (vec [.int .i64 (B.now+1),k1',o,.slice a4 m c4,k4])∧FrP (fun q=>q=K) X w') :
  ∀ D X E,Below w.1.size w X→DkIn X D K g B v L a1 c1 (plW B v) (foB B v)→w.1.size≤D→EOk B v L w X E→wCode B v=0→Calls Tryz.prog 102 #[.pointer (some ⟨D,0,none⟩),obV E] X fun e w'=>e=.returned (.tuple #[])∧PstD K B v L k1' k4 m ch E X w':=by
 intro D X E hb hd hD hE hcode
 have hok:=hin.ok
 have hon:=hok.on
 have hlen:=hd.len
 have kr:=hin.kr.below hb hin.kr.lt
 have zK:=hin.kr.lt
 have hrow:=rowC_E hd.row
 rw [hlen] at hrow
 have hEhn:(E.ob.hn:Int)≤1000:=by
  rw [hE.1]
  have h5:∀ o:Ob,wOf B v=o→o.hn≤5:=fun o ho=>by
   rw [←ho]
   unfold wOf fndOb
   cases hx:fnd B.os v.kind v.name B.on with
   | none=>exact Nat.zero_le _
   | some i=>exact (hok.hold i (fnd_lt hx).1).1
  have h6:=h5 _ rfl
  unfold opOb
  split
  ·dsimp only
   split<;>omega
  ·split
   ·dsimp only;omega
   ·split
    ·dsimp only;omega
    ·split<;>(dsimp only;omega)
 have hA:∀ Y,FrP (fun q=>q=K) X Y→StrsIn Y 0 Y.1.size E.A E.ob.hn E.ob.hs:=fun Y hf=>by
  obtain ⟨h1,h2,h3⟩:=hE
  rcases h3 with ⟨q0,q1,q2,q3⟩|⟨q1,q2,q3,q4,q5⟩
  ·have hfo:foB B v=true:=by
    cases hx:foB B v with
    | true=>rfl
    | false=>
     rw [hx] at hd
     have:=(oc_none hd.no.2 (by omega)).1
     unfold wCode at hcode
     rw [this,if_neg (by decide)] at hcode
     exact absurd hcode (by decide)
   rw [hfo] at hd
   have hy:=hd.yes
   have hm:=hd.cells.2.2.2
   have h4:=hkeep _ hm Y ((FrP.of_below hb).trans hf)
   rw [hd.at hy.1,←hy.2.1] at h4
   rw [q1,h1]
   have e1:(opOb B v (wOf B v).ver).hn=(wOf B v).hn∧(opOb B v (wOf B v).ver).hs=(wOf B v).hs:=by
    rcases q0 with q|q<;>simp [opOb,q]
   rw [e1.1,e1.2]
   exact h4
  ·exact (q5.frP hf (fun h0=>⟨by omega,q4 h0⟩)).inW (fun h0=>Nat.lt_of_lt_of_le (q4 h0) hf.size)
 have hst:standB ⟨E.ob.kind,E.ob.name,B.now+1,E.ob.born,E.ob.text,E.ob.ending,E.ob.hn,E.ob.hs⟩ = !wGone B v:=by
  rw [stand_ver,hE.1]
  unfold wGone wOb
  rw [opOb_stand B v _ (B.now+1)]
  simp
 have hbK:¬g=K:=hgK
 cases hfo:foB B v with
 | true=>
  have hd':=hd
  rw [hfo] at hd'
  have hp:=hd'.yes.1
  cases hgn:wGone B v with
  | false=>
   rw [hgn] at hst
   refine (put_10 D K v (plW B v) E.ob E.A E.C B.now k1 k1' k3 k4 a1 g 0 B.on c1 (cellsE L) ch m X hd.hD (by omega) hbK hd'.dk kr hrow hp (by omega) hEhn hA hok.now0 hok.now1 hst (fun Y A' C' o hf hr=>TE E X Y false A' C' o hb hf hr)).mono ?_
   rintro e w' ⟨rfl,hP⟩
   refine ⟨rfl,?_⟩
   unfold PstD L2 L1
   rw [hgn,if_neg (by decide),hfo,if_pos rfl]
   have hl1:(L.eraseIdx (plW B v)).length=B.on-1:=by rw [List.length_eraseIdx,if_pos (by omega),hlen]
   rw [remL_E L _ (by omega)] at hP
   have h9:=insL_E (L.eraseIdx (plW B v)) (plW B v) (eoV B E) (by omega)
   have hl2:((L.eraseIdx (plW B v)).take (plW B v) ++ eoV B E::(L.eraseIdx (plW B v)).drop (plW B v)).length=B.on-1+1:=by simp [hl1];omega
   rw [←h9,hl2]
   exact hP
  | true=>
   rw [hgn] at hst
   refine (put_11 D K v (plW B v) E.ob E.A E.C B.now k1 k1' k3 k4 a1 g 0 B.on c1 (cellsE L) ch m X hd.hD (by omega) hbK hd'.dk kr hrow hp (by omega) hEhn hA hok.now0 hok.now1 hst (fun Y A' C' o hf hr=>TE E X Y true A' C' o hb hf hr)).mono ?_
   rintro e w' ⟨rfl,hP⟩
   refine ⟨rfl,?_⟩
   unfold PstD L2 L1
   rw [hgn,if_pos rfl,hfo,if_pos rfl]
   have hl1:(L.eraseIdx (plW B v)).length=B.on-1:=by rw [List.length_eraseIdx,if_pos (by omega),hlen]
   rw [remL_E L _ (by omega)] at hP
   rw [hl1]
   exact hP
 | false=>
  have hd':=hd
  rw [hfo] at hd'
  have hgn:=gone_new hd'.no.2 hcode
  rw [hgn] at hst
  refine (put_00 D K v (plW B v) E.ob E.A E.C B.now k1 k1' k3 k4 a1 g 0 B.on c1 (cellsE L) ch m X hd.hD (by omega) hbK hd'.dk kr hrow hd.pa.1 (by omega) hEhn hA hok.now0 hok.now1 hst (fun Y A' C' o hf hr=>TE E X Y false A' C' o hb hf hr)).mono ?_
  rintro e w' ⟨rfl,hP⟩
  refine ⟨rfl,?_⟩
  unfold PstD L2 L1
  rw [hgn,if_neg (by decide),hfo,if_neg (by decide)]
  have hpl:=hd.pa.1
  have h9:=insL_E L (plW B v) (eoV B E) (by omega)
  have hl2:(L.take (plW B v) ++ eoV B E::L.drop (plW B v)).length=B.on+1:=by simp [hlen];omega
  rw [←h9,hl2]
  exact hP
end Go.Proofs.YtllmmkchokkaaaaGreatDoor
