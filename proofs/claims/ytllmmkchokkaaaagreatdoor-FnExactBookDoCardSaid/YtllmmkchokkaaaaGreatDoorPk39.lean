import Derived.Test.YtllmmkchokkaaaaGreatDoorPk35
import Derived.Test.YtllmmkchokkaaaaGreatDoorPk37
import Derived.Test.YtllmmkchokkaaaaGreatDoorPk38
set_option maxRecDepth 100000
namespace Go.Proofs.YtllmmkchokkaaaaGreatDoor
open Go.RowKit Go.Maps
def bk0:Bk:=⟨0,0,0,fun _=>ob0,0,fun _=>⟨0,false,ob0⟩,0,fun _=>⟨⟨#[]⟩,0,⟨#[]⟩,0,0⟩⟩
def goB (B:Bk) (v:Wr):Bool:=allTo (chk B) 7&&wrB v
def didC (B:Bk) (v:Wr):Int:=if allTo (chk B) 7 then (if wrB v then wCode B v else 2) else 1
def didV (B:Bk) (v:Wr):Int:=if goB B v then (if wCode B v=0 then B.now+1 else oVer B v) else 0
def didB (B:Bk) (v:Wr):Bk:=if goB B v then (if wCode B v=0 then wBk B v else B) else bk0
theorem bkAt0 (w:World) (p:Pl):BkAt w bk0 p:=
 ⟨⟨fun h=>absurd h (Nat.lt_irrefl _),fun h=>absurd h (Nat.lt_irrefl _),fun i hi=>absurd hi (Nat.not_lt_zero _),fun i hi=>absurd hi (Nat.not_lt_zero _),⟨fun i hi=>absurd hi (Nat.not_lt_zero _),fun i j hi=>absurd hi (Nat.not_lt_zero _)⟩⟩,
  ⟨fun h=>absurd h (Nat.lt_irrefl _),fun h=>absurd h (Nat.lt_irrefl _),fun i hi=>absurd hi (Nat.not_lt_zero _),fun i hi=>absurd hi (Nat.not_lt_zero _),⟨fun i hi=>absurd hi (Nat.not_lt_zero _),fun i j hi=>absurd hi (Nat.not_lt_zero _)⟩⟩,
  ⟨fun h=>absurd h (Nat.lt_irrefl _),fun h=>absurd h (Nat.lt_irrefl _)⟩,
  fun k h=>(by rcases h with ⟨h,_⟩|⟨i,hi,_⟩<;>exact absurd ‹_› (Nat.not_lt_zero _)),fun k h=>(by rcases h with ⟨h,_⟩|⟨i,hi,_⟩<;>exact absurd ‹_› (Nat.not_lt_zero _)),fun k h=>(by rcases h with ⟨h,_⟩|⟨i,hi,_⟩<;>exact absurd ‹_› (Nat.not_lt_zero _))⟩
theorem blkB0 {p:Pl} {k:Nat} (h:blkB p bk0 k):False:=by
 rcases h with (⟨h,_⟩|⟨i,hi,_⟩)|(⟨h,_⟩|⟨i,hi,_⟩)|⟨h,_⟩<;>exact absurd ‹_› (Nat.not_lt_zero _)
def DoI (B:Bk) (v:Wr) (w:World) (e:Ending) (w':World):Prop:=
 ∃ (p:Pl) (d1 d2 d3:Nat),e=.returned (.agg #[.int .i64 (didC B v),.int .i64 (didB B v).now,.int .i64 (didB B v).floor,.slice p.a1 (didB B v).on d1,.slice p.a2 (didB B v).hn d2,.slice p.a3 (didB B v).tn d3,.int .i64 (didV B v)])∧BkAt w' (didB B v) p∧(∀ q,blkB p (didB B v) q→w.1.size≤q)∧Below w.1.size w w'
theorem op_range {v:Wr} (h:wrB v=true):v.op=1∨v.op=2∨v.op=3∨v.op=4∨v.op=5:=by
 unfold wrB at h
 rw [Bool.and_eq_true] at h
 have h2:=h.2
 unfold useB at h2
 split at h2
 ·exact Or.inl ‹_›
 ·split at h2
  ·exact Or.inr (Or.inl ‹_›)
  ·split at h2
   ·exact Or.inr (Or.inr (Or.inl ‹_›))
   ·split at h2
    ·exact Or.inr (Or.inr (Or.inr (Or.inl ‹_›)))
    ·split at h2
     ·exact Or.inr (Or.inr (Or.inr (Or.inr ‹_›)))
     ·cases h2
theorem into_any (K g:Nat) (B:Bk) (v:Wr) (L:List EO) (a1:Option Addr) (c1:Nat) (k1 k3 k4:Value) (Pst:EO→World→World→Prop) (w:World) (hin:WS w K g B v L a1 c1 k1 k3 k4)
  (hP:∀ D X E,Below w.1.size w X→DkIn X D K g B v L a1 c1 (plW B v) (foB B v)→w.1.size≤D→EOk B v L w X E→wCode B v=0→Calls Tryz.prog 102 #[.pointer (some ⟨D,0,none⟩),obV E] X fun e w'=>e=.returned (.tuple #[])∧Pst E X w') :
  Calls Tryz.prog 43 #[.pointer (some ⟨K,0,none⟩),.agg #[.int .i64 v.op,.string v.kind,.string v.name,.int .i64 v.seen,.string v.text,.string v.hold]] w (IntoP B v L Pst w):=by
 rcases op_range hin.ok.wr with h|h|h|h|h
 ·exact into_1 K g B v L a1 c1 k1 k3 k4 Pst w hin h hP
 ·exact into_2 K g B v L a1 c1 k1 k3 k4 Pst w hin h hP
 ·exact into_3 K g B v L a1 c1 k1 k3 k4 Pst w hin h hP
 ·exact into_4 K g B v L a1 c1 k1 k3 k4 Pst w hin h hP
 ·exact into_5 K g B v L a1 c1 k1 k3 k4 Pst w hin h hP
theorem write_copy (B:Bk) (v:Wr) (p:Pl) (d1 d2 d3:Nat) (w3 W:World) (K:Nat) (hok:WOk B v) (hat:BkAt w3 B p) (hcap:CapB B p d1 d2 d3) (hb:Below w3.1.size w3 W) (hKz:w3.1.size≤K) (hr:RowF W K 5 (vec [.int .i64 B.now,.int .i64 B.floor,.slice p.a1 B.on d1,.slice p.a2 B.hn d2,.slice p.a3 B.tn d3])) :
  Calls Tryz.prog 43 #[.pointer (some ⟨K,0,none⟩),.agg #[.int .i64 v.op,.string v.kind,.string v.name,.int .i64 v.seen,.string v.text,.string v.hold]] W fun e w'=>
   (¬wCode B v=0∧e=.returned (.iface 146 (.agg #[.int .i64 v.op,.string v.kind,.string v.name,.int .i64 v.seen,.string v.text,.string v.hold,.iface 90 (.agg #[.int .i64 (wCode B v),.int .i64 (oVer B v)])]))∧Below W.1.size W w') ∨
   (wCode B v=0∧e=.returned .nilIface∧FrP (fun q=>q=K) W w'∧∃ (q:Pl) (c1' c2':Nat),RowF w' K 5 (vec [.int .i64 (wBk B v).now,.int .i64 (wBk B v).floor,.slice q.a1 (wBk B v).on c1',.slice q.a2 (wBk B v).hn c2',.slice q.a3 (wBk B v).tn d3])∧BkAt w' (wBk B v) q∧(∀ k,blkB q (wBk B v) k→blkB p B k∨w3.1.size≤k)):=by
 have hatW:=hat.grow hb
 obtain ⟨hro,hho,hne⟩:=rowE_of hatW.o
 obtain ⟨c,hrc,hch⟩:=rowC_ch hatW.h hcap.h
 have zW:=hb.size
 have zK:=hr.lt
 have hlen:(rowE B.on B.os p.A1 p.C1 p.h1).length=B.on:=rowE_len _ _ _ _ _
 have hL:∀ e,e ∈ rowE B.on B.os p.A1 p.C1 p.h1→∃ i,i<B.on∧e=⟨B.os i,p.A1 i,p.C1 i,p.h1 i⟩:=fun e he=>by
  obtain ⟨i,hi,rfl⟩:=mem_ixE he
  rw [rowE_len] at hi
  exact ⟨i,hi,rowE_at hi⟩
 have hin:WS W K p.g1 B v (rowE B.on B.os p.A1 p.C1 p.h1) p.a1 d1 (.int .i64 B.floor) (.slice p.a2 B.hn d2) (.slice p.a3 B.tn d3):=by
  refine ⟨hr,?_,rowE_obs _ _ _ _ _,fun e he=>?_,fun e he=>?_,hok⟩
  ·by_cases h0:rowE B.on B.os p.A1 p.C1 p.h1=[]
   ·have:B.on=0:=by rw [←hlen,h0];rfl
    have e:=hcap.o.2.2 this
    exact Or.inl ⟨e,h0,hcap.o.2.1 e⟩
   ·have:=hro h0
    exact Or.inr ⟨this.1,this.2,by rw [hlen];exact hcap.o.1⟩
  ·exact (hho.hold e he).inW (hho.lt e he)
  ·obtain ⟨i,hi,rfl⟩:=hL e he
   exact hcap.os i hi
 have hg1:0<B.on→p.g1<w3.1.size:=fun h=>hat.o.blt (Or.inl ⟨h,rfl⟩)
 have hg2:0<B.hn→p.g2<w3.1.size:=fun h=>hat.h.blt (Or.inl ⟨h,rfl⟩)
 -- a row that is not there has no block: take one that is not the box
 obtain ⟨g1',hg1',hin'⟩:∃ g,¬g=K∧WS W K g B v (rowE B.on B.os p.A1 p.C1 p.h1) p.a1 d1 (.int .i64 B.floor) (.slice p.a2 B.hn d2) (.slice p.a3 B.tn d3):=by
  rcases Nat.eq_zero_or_pos B.on with h0|h0
  ·have e:=hcap.o.2.2 h0
   exact ⟨K+1,by omega,hin.kr,Or.inl ⟨e,List.eq_nil_of_length_eq_zero (by rw [hlen];exact h0),hcap.o.2.1 e⟩,hin.ol,hin.hold,hin.cap,hin.ok⟩
  ·have:=hg1 h0
   exact ⟨p.g1,by omega,hin⟩
 obtain ⟨g2',hg2',hrc'⟩:∃ g,¬g=K∧RowC W 9 p.a2 g 0 B.hn d2 (rowCells (B.hn*9) c):=by
  rcases Nat.eq_zero_or_pos B.hn with h0|h0
  ·have e:=hcap.h.2.2 h0
   exact ⟨K+1,by omega,hrc.len,hrc.one,Or.inl ⟨e,h0,hcap.h.2.1 e⟩⟩
  ·have:=hg2 h0
   exact ⟨p.g2,by omega,hrc⟩
 have hhn:=hok.hn
 refine (into_any K g1' B v _ p.a1 d1 _ _ _ (PstD K B v (rowE B.on B.os p.A1 p.C1 p.h1) (.int .i64 (wBk B v).floor) (.slice p.a3 B.tn d3) (B.hn-wCut B+1) ((rowCells (B.hn*9) c).drop (wCut B*9))) W hin' (pst_of hin' hg1' (fun e he X hf=>?_) ?_)).mono ?_
 ·have h1:=hho.fr hf (fun f hf' h0 q=>by
   obtain ⟨i,hi,rfl⟩:=hL f hf'
   have:=hat.o.hlt i hi h0
   have q':p.h1 i=K:=q
   omega)
  exact (h1.hold e he).inW (h1.lt e he)
 ·intro E X0 X gn A' C' o hb0 hf hrX
  have hrcX:=(hrc'.grow hb0).fr hf hg2'
  by_cases h200:B.hn=200
  ·have hcut:wCut B=1:=by unfold wCut;rw [if_pos h200]
   have hfl:(wBk B v).floor=(B.hs 0).ver:=by unfold wBk;simp [h200]
   rw [hcut,hfl]
   refine (tell_full K ⟨B.now+1,gn,⟨E.ob.kind,E.ob.name,B.now+1,E.ob.born,E.ob.text,E.ob.ending,E.ob.hn,E.ob.hs⟩⟩ A' C' _ _ _ _ p.a2 g2' 0 B.hn d2 (rowCells (B.hn*9) c) (B.hs 0).ver X hrX hrcX (by omega) h200 ?_ (fun q=>hg2' q.symm)).mono (fun e w' h=>h)
   rw [rowCells_idx (by omega)]
   have:=(hch 0 (by omega)).1
   rw [Nat.zero_mul] at this
   rw [this]
  ·have hcut:wCut B=0:=by unfold wCut;rw [if_neg h200]
   have hfl:(wBk B v).floor=B.floor:=by unfold wBk;simp [h200]
   rw [hcut,hfl,Nat.zero_mul,List.drop_zero,Nat.sub_zero]
   exact (tell_few K ⟨B.now+1,gn,⟨E.ob.kind,E.ob.name,B.now+1,E.ob.born,E.ob.text,E.ob.ending,E.ob.hn,E.ob.hs⟩⟩ A' C' _ _ _ _ p.a2 g2' 0 B.hn d2 (rowCells (B.hn*9) c) X hrX hrcX (by omega) h200).mono (fun e w' h=>h)
 ·rintro e w' (h|⟨hc,rfl,E,X,hbX,hE,hP⟩)
  ·exact Or.inl h
  ·have zX:=hbX.size
   have hE':EOk B v (rowE B.on B.os p.A1 p.C1 p.h1) w3 X E:=by
    obtain ⟨h1,h2,h3⟩:=hE
    refine ⟨h1,h2,?_⟩
    rcases h3 with h3|⟨q1,q2,q3,q4,q5⟩
    ·exact Or.inl h3
    ·exact Or.inr ⟨q1,q2,by omega,q4,q5⟩
   have hKE:E.ob.hn≠0→¬E.hb=K:=fun h0 q=>by
    obtain ⟨h1,h2,h3⟩:=hE
    rcases h3 with ⟨q0,q1,q2,q3⟩|⟨q1,q2,q3,q4,q5⟩
    ·have hfi:fndIs B.os v.kind v.name B.on=true:=(code_key hc).resolve_right (by omega)
     have hfn:=fnd_place hok (place_at hok)
     have hfo:plW B v<B.on∧kcI B.os v.kind v.name (plW B v)=0:=by
      by_cases q:plW B v<B.on∧kcI B.os v.kind v.name (plW B v)=0
      ·exact q
      ·rw [if_neg q] at hfn
       unfold fndIs at hfi
       rw [hfn] at hfi
       cases hfi
     rw [if_pos hfo] at hfn
     have hof:wOf B v=B.os (plW B v):=by unfold wOf fndOb;rw [hfn]
     have e1:E.ob.hn=(B.os (plW B v)).hn:=by
      rw [h1,←hof]
      rcases q0 with q|q<;>simp [opOb,q]
     rw [rowE_at hfo.1] at q3
     have:=hat.o.hlt _ hfo.1 (by rw [←e1];exact h0)
     have q3':E.hb=p.h1 (plW B v):=q3
     omega
    ·omega
   obtain ⟨q,c1',c2',hr2,hat2,hbl⟩:=bkAt_wr (w0:=w3) hat (hb.trans (hbX.mono zW)) hKz (by omega) hok hc hch hE' hKE hP
   have hf:FrP (fun q=>q=K) X w':=by
    obtain ⟨_,_,_,_,_,_,_,_,_,_,_,_,_,hf,_⟩:=hP
    exact hf
   exact Or.inr ⟨hc,rfl,(FrP.of_below hbX).trans hf,q,c1',c2',hr2,hat2,hbl⟩
end Go.Proofs.YtllmmkchokkaaaaGreatDoor
