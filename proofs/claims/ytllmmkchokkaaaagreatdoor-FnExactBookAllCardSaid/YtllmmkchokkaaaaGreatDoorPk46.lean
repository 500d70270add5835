import Derived.Test.YtllmmkchokkaaaaGreatDoorPk45
set_option maxRecDepth 100000
set_option maxHeartbeats 8000000
namespace Go.Proofs.YtllmmkchokkaaaaGreatDoor
open Go.RowKit Go.Maps
theorem CapX.grow {w w':World} {B:Bk} {p:Pl} {d1 d2 K:Nat} (h:CapX w B p d1 d2 K) (hb:Below w.1.size w w'):CapX w' B p d1 d2 K:=
 ⟨h.o.grow hb.size,h.h.grow hb.size,fun i hi=>(h.os i hi).grow hb.size,h.ak,fun b e j=>by
  rcases h.o.2 with ⟨e1,_,_⟩|⟨b',off,e1,e2⟩
  ·rw [e1] at e;cases e
  ·rw [e1] at e
   cases e
   exact (hb.frozen (p:=⟨b,j,none⟩) e2).trans (h.fr b e1 j)⟩
def NB (W:World) (K:Nat) (Y:Bk):Prop:=
 ∃ (p:Pl) (d1 d2 d3:Nat),RowF W K 5 (vec [.int .i64 Y.now,.int .i64 Y.floor,.slice p.a1 Y.on d1,.slice p.a2 Y.hn d2,.slice p.a3 Y.tn d3])∧BkAt W Y p∧CapX W Y p d1 d2 K∧¬blkB p Y K
theorem NB.grow {W W':World} {K:Nat} {Y:Bk} (h:NB W K Y) (hb:Below W.1.size W W'):NB W' K Y:=by
 obtain ⟨p,d1,d2,d3,h1,h2,h3,h4⟩:=h
 exact ⟨p,d1,d2,d3,h1.below hb h1.lt,h2.grow hb,h3.grow hb,h4⟩
def NrP (B:Bk) (x:Bu) (K:Nat) (w:World) (e:Ending) (w':World):Prop:=
 FrP (fun q=>q=K) w w'∧((∃ k,k<x.rn∧(∀ j,j<k→wrOk B x j=true)∧¬wCode (runB B x.rs k) (x.rs k)=0∧e=.panicked [{ v:=.iface 161 (.agg #[.int .i64 (k:Nat),.iface 146 (.agg #[.int .i64 (x.rs k).op,.string (x.rs k).kind,.string (x.rs k).name,.int .i64 (x.rs k).seen,.string (x.rs k).text,.string (x.rs k).hold,.iface 90 (.agg #[.int .i64 (wCode (runB B x.rs k) (x.rs k)),.int .i64 (oVer (runB B x.rs k) (x.rs k))])])]),recovered:=false }])∨((∀ j,j<x.rn→wrOk B x j=true)∧e=.returned (.tuple #[])∧NB w' K (runB B x.rs x.rn)))
theorem needWrites_any (B:Bk) (x:Bu) (ua ub:Option Addr) (d2 K s:Nat) (w:World) (hf:BkFit B) (hv:allTo (chk B) 7=true) (hu:BuFit x) (hb:BuOk x) (hbu:BuIn w 0 s x ua ub) (hsK:s≤K) (hK:K<w.1.size) (hn:NB w K B) :
  Calls Tryz.prog 114 #[.pointer (some ⟨K,0,none⟩),.slice ub x.rn d2] w fun e w'=>NrP B x K w e w':=by
 have HF:=hid hf
 have HV:=hid hv
 have HU:=hid hu
 have HO:=hid hb
 have HBU:=hid hbu
 have HN:=hid hn
 clear hf hv hu hb hbu hn
 have hrn:=HO.out.rn
 go_enter Tryz.func114,Tryz.ntmps114
 go_wp2
 go_loopw [9] (fun i wr=>∃ k:Nat,k≤x.rn∧i=.int .i64 k∧Hid (∀ j,j<k→wrOk B x j=true)∧Hid (FrP (fun q=>q=K) w wr)∧Hid (NB wr K (runB B x.rs k))) (fun i _=>x.rn-(intOf i).toNat)
 case atStart=>exact ⟨0,Nat.zero_le _,rfl,hid (fun j hj=>absurd hj (Nat.not_lt_zero _)),hid (FrP.refl _ _),HN⟩
 case round=>
  clear HN
  obtain ⟨k,hk,rfl,HA,HFR,HN⟩:=hrel
  by_cases hkn:k<x.rn
  ·obtain ⟨b,off,hu1,hlo,hbh,hcx⟩:=HBU.out.wr k hkn
   subst hu1
   have hbz:b<w.1.size:=Za
   have cc:∀ {j u},w.cell? ⟨b,j,none⟩=some u→wr.cell? ⟨b,j,none⟩=some u:=fun {j u} h=>(HFR.out.cell (p:=⟨b,j,none⟩) hbz (by show ¬b=K;omega)).trans h
   have e0:=cc hcx.c0
   have e1:=cc hcx.c1
   have e2:=cc hcx.c2
   have e3:=cc hcx.c3
   have e4:=cc hcx.c4
   have e5:=cc hcx.c5
   have zr:=HFR.out.size
   have HOK:=hid (run_ok HF.out HV.out HU.out HO.out k hkn HA.out)
   clear hcx cc
   go_wp2_with fail
   obtain ⟨p,g1,g2,g3,hrow,hat,hcap,hnK⟩:=HN.out.grow (below_alloc wr (.cells #[.int .i64 (x.rs k).op,.string (x.rs k).kind,.string (x.rs k).name,.int .i64 (x.rs k).seen,.string (x.rs k).text,.string (x.rs k).hold] 40))
   refine (write_gen (runB B x.rs k) (x.rs k) p g1 g2 g3 _ K HOK.out hat hcap hnK hrow).mono ?_
   rintro e w1 (⟨hc,rfl,hb1⟩|⟨hc,rfl,hf1,q,c1',c2',hr2,hat2,hcx2,hbl⟩)
   ·have HC:=hid hc
    have HFIN:=hid ((HFR.out.trans (FrP.of_below (below_alloc wr _))).trans (FrP.of_below hb1))
    clear hc hb1 hrow hat hcap hnK e0 e1 e2 e3 e4 e5 HN
    go_wp2
    exact ⟨rfl,HFIN.out,Or.inl ⟨k,hkn,HA.out,HC.out,rfl⟩⟩
   ·have HK:=hid (show wrOk B x k=true from decide_eq_true hc)
    have HFIN:=hid ((HFR.out.trans (FrP.of_below (below_alloc wr _))).trans hf1)
    have HN2:=hid (show NB w1 K (runB B x.rs (k+1)) from ⟨q,c1',c2',g3,hr2,hat2,hcx2,fun h=>(hbl K h).elim hnK (fun h=>by simp at h;omega)⟩)
    clear hc hf1 hr2 hat2 hcx2 hbl hrow hat hcap hnK e0 e1 e2 e3 e4 e5 HN
    go_wp2
    go_roundw
    case rel=>exact ⟨k+1,Za,by go_num,hid (fun j hj=>by
     rcases Nat.lt_or_ge j k with q|q
     ·exact HA.out j q
     ·obtain rfl:j=k:=Za
      exact HK.out),HFIN,HN2⟩
    case measure=>simp [intOf];omega
  ·have hA1:=hid (show ∀ j,j<x.rn→wrOk B x j=true from fun j hj=>HA.out j Za)
   have HN2:=hid (show NB wr K (runB B x.rs x.rn) by have:=HN.out;rwa [show k=x.rn by omega] at this)
   clear HA HN
   go_wp2
   exact bodyPost_end (results_none rfl _ _ _) rfl ⟨HFR.out,Or.inr ⟨hA1.out,rfl,HN2.out⟩⟩
end Go.Proofs.YtllmmkchokkaaaaGreatDoor
