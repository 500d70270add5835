import Derived.Test.YtllmmkchokkaaaaGreatDoorPk27
import Derived.Test.YtllmmkchokkaaaaGreatDoorPk44
import Derived.Test.YtllmmkchokkaaaaGreatDoorPk29
set_option maxRecDepth 100000
set_option maxHeartbeats 8000000
namespace Go.Proofs.YtllmmkchokkaaaaGreatDoor
open Go.RowKit Go.Extern.Stop Go.Stop Go.Extern
theorem as0_any (c d:Int) (R a:Nat) (o0 o1:Value) (w:World) (hR:R<w.1.size) (ha:a<w.1.size) (_hRa:¬R=a) (h0:w.cell? ⟨R,0,none⟩=some o0) (h1:w.cell? ⟨R,1,none⟩=some o1) (hf:∀ j,w.frozen? ⟨R,j,none⟩=false) (hp:w.cell? ⟨a,0,none⟩=some (.pointer (some ⟨R,0,none⟩))) :
  Calls Tryz.prog 165 #[.iface 90 (.agg #[.int .i64 c,.int .i64 d]),.iface 149 (.pointer (some ⟨R,0,none⟩)),.agg #[.pointer (some ⟨5,149,none⟩),.pointer (some ⟨a,0,none⟩),.int .u64 150],.iface 233 (.agg #[.pointer (some ⟨5,90,none⟩)])] w fun e w'=>e=.returned (.bool true)∧FrP (fun q=>q=R) w w'∧w'.cell? ⟨R,0,none⟩=some (.int .i64 c)∧w'.cell? ⟨R,1,none⟩=some (.int .i64 d):=by
 have B0:=below_alloc w (.cells #[.pointer (some ⟨5,149,none⟩),.pointer (some ⟨a,0,none⟩),.int .u64 150] 206)
 have h162:=@run_callFunc_extern Tryz.prog 162 _ (fun args=>ReflectliteValue.unpack (args.getD 0 (.tuple #[]))) Tryz.func162 Zf Zf Zf Zf
 have h189:=@run_callFunc_extern Tryz.prog 189 _ (ReflectliteType.typeOf) Tryz.func189 Zf Zf Zf Zf
 have h253:=@run_callFunc_extern Tryz.prog 253 _ (ReflectliteType.relation "AssignableTo" ReflectliteType.assignableTo) Tryz.func253 Zf Zf Zf Zf
 have h190:=@run_callFunc_extern Tryz.prog 190 _ (ReflectliteValue.method (ReflectliteValue.valueError "reflectlite.Value.Elem" 0) ReflectliteValue.elem) Tryz.func190 Zf Zf Zf Zf
 have h191:=@run_callFunc_extern Tryz.prog 191 _ (ReflectliteValue.set) Tryz.func191 Zf Zf Zf Zf
 have tO2:=Tryz.typeOf90
 have mA:=Tryz.methodAssignableTo
 have a90:=Tryz.assignable90
 have v90:=Tryz.valueOf90
 go_enter Tryz.func165,Tryz.ntmps165
 go_wp2
 obtain ⟨w1,hw1⟩:∃ w1,w1=w.alloc (.cells #[.pointer (some ⟨5,149,none⟩),.pointer (some ⟨a,0,none⟩),.int .u64 150] 206):=⟨_,rfl⟩
 rw [←hw1]
 have hb1:Below (w.alloc (.cells #[.pointer (some ⟨5,149,none⟩),.pointer (some ⟨a,0,none⟩),.int .u64 150] 206)).1.size (w.alloc (.cells #[.pointer (some ⟨5,149,none⟩),.pointer (some ⟨a,0,none⟩),.int .u64 150] 206)) w1:=by rw [hw1];exact Below.refl _ _
 clear hw1
 have B1:=B0.trans (hb1.mono B0.size)
 have rb:=RowF.new (w:=w) (l:=[.pointer (some ⟨5,149,none⟩),.pointer (some ⟨a,0,none⟩),.int .u64 150]) (t:=206) hb1
 have y0:=rb.cell 0 Zd
 have y1:=rb.cell 1 Zd
 have y2:=rb.cell 2 Zd
 simp only [vec,List.getD_cons_zero,List.getD_cons_succ] at y0 y1 y2
 have zb:w.1.size<w1.1.size:=rb.lt
 have zR:R<w1.1.size:=Za
 have hp1:=(B1.cell (p:=⟨a,0,none⟩) ha).trans hp
 have k0:=(B1.cell (p:=⟨R,0,none⟩) hR).trans h0
 have k1:=(B1.cell (p:=⟨R,1,none⟩) hR).trans h1
 have kf:=fun j=>(B1.frozen (p:=⟨R,j,none⟩) hR).trans (hf j)
 have el:=Tryz.elemV149 ⟨a,0,none⟩ ⟨R,0,none⟩ w1 hp1
 have BA:=below_alloc w1 (.cells #[.int .i64 c,.int .i64 d] 90)
 have st:=Tryz.set90 R w1.1.size c d o0 o1 (w1.alloc (.cells #[.int .i64 c,.int .i64 d] 90)) (new_cell rfl) (new_cell rfl) ((BA.cell (p:=⟨R,0,none⟩) zR).trans k0) ((BA.cell (p:=⟨R,1,none⟩) zR).trans k1) (fun j=>(BA.frozen (p:=⟨R,j,none⟩) zR).trans (kf j))
 have zS:R<((w1.setCell ⟨R,0,none⟩ (.int .i64 c)).setCell ⟨R,1,none⟩ (.int .i64 d)).1.size:=by simpa using zR
 have BS:=below_alloc ((w1.setCell ⟨R,0,none⟩ (.int .i64 c)).setCell ⟨R,1,none⟩ (.int .i64 d)) (.cells #[.int .i64 c,.int .i64 d] 90)
 have HFIN:=hid (show FrP (fun q=>q=R) w (((w1.setCell ⟨R,0,none⟩ (.int .i64 c)).setCell ⟨R,1,none⟩ (.int .i64 d)).alloc (.cells #[.int .i64 c,.int .i64 d] 90))∧(((w1.setCell ⟨R,0,none⟩ (.int .i64 c)).setCell ⟨R,1,none⟩ (.int .i64 d)).alloc (.cells #[.int .i64 c,.int .i64 d] 90)).cell? ⟨R,0,none⟩=some (.int .i64 c)∧(((w1.setCell ⟨R,0,none⟩ (.int .i64 c)).setCell ⟨R,1,none⟩ (.int .i64 d)).alloc (.cells #[.int .i64 c,.int .i64 d] 90)).cell? ⟨R,1,none⟩=some (.int .i64 d) from
  ⟨(((FrP.of_below B1).trans (FrP.setCell (P:=fun q=>q=R) (FrP.refl _ _) rfl _)).trans (FrP.setCell (P:=fun q=>q=R) (FrP.refl _ _) rfl _)).trans (FrP.of_below BS),
   (BS.cell (p:=⟨R,0,none⟩) zS).trans (by rw [World.cell?_setCell_other _ _ _ _ Zd];exact World.cell?_setCell_same _ _ _ k0),
   (BS.cell (p:=⟨R,1,none⟩) zS).trans (World.cell?_setCell_same _ _ _ (by rw [World.cell?_setCell_other _ _ _ _ Zd];exact k1))⟩)
 clear hb1 B0 B1 rb BS zS hp1 k0 k1 kf BA h0 h1 hf hp
 refine wp_loop_rounds 1 ?_
 rw [rounds_succ]
 go_wp2
 go_ret
 exact ⟨rfl,HFIN.out⟩
theorem as0Top_any (c d:Int) (R:Nat) (o0 o1:Value) (w:World) (hg:w.cell? ⟨0,0,none⟩=some (.iface 233 (.agg #[.pointer (some ⟨5,86,none⟩)]))) (hR:R<w.1.size) (h0:w.cell? ⟨R,0,none⟩=some o0) (h1:w.cell? ⟨R,1,none⟩=some o1) (hf:∀ j,w.frozen? ⟨R,j,none⟩=false) :
  Calls Tryz.prog 103 #[.iface 90 (.agg #[.int .i64 c,.int .i64 d]),.iface 149 (.pointer (some ⟨R,0,none⟩))] w fun e w'=>e=.returned (.bool true)∧FrP (fun q=>q=R) w w'∧w'.cell? ⟨R,0,none⟩=some (.int .i64 c)∧w'.cell? ⟨R,1,none⟩=some (.int .i64 d):=by
 have h162:=@run_callFunc_extern Tryz.prog 162 _ (fun args=>ReflectliteValue.unpack (args.getD 0 (.tuple #[]))) Tryz.func162 Zf Zf Zf Zf
 have h163:=@run_callFunc_extern Tryz.prog 163 _ (ReflectliteValue.methodAny (ReflectliteValue.valueError "reflectlite.Value.Type" 0) (fun t _ _ _=>ReflectliteType.toType t)) Tryz.func163 Zf Zf Zf Zf
 have h164:=@run_callFunc_extern Tryz.prog 164 _ (ReflectliteValue.method (ReflectliteValue.valueError "reflectlite.Value.IsNil" 0) ReflectliteValue.isNil) Tryz.func164 Zf Zf Zf Zf
 have h243:=@run_callFunc_extern Tryz.prog 243 _ (ReflectliteType.abiMethod fun t=>do pure (.int .u8 (←Rtype.kind t))) Tryz.func243 Zf Zf Zf Zf
 have h255:=@run_callFunc_extern Tryz.prog 255 _ (ReflectliteType.method ReflectliteType.elem) Tryz.func255 Zf Zf Zf Zf
 have h256:=@run_callFunc_extern Tryz.prog 256 _ (ReflectliteType.relation "Implements" ReflectliteType.implements_) Tryz.func256 Zf Zf Zf Zf
 have f6:=Tryz.valueOf149
 have f7:=Tryz.type149
 have mK:=Tryz.methodKind
 have mE:=Tryz.methodElem
 have mI:=Tryz.methodImplements
 have k149:=Tryz.kind149
 have k90:=Tryz.kind90
 have e149:=Tryz.elem149
 have i90:=Tryz.implements90
 have B2:Below w.1.size w ((w.alloc (.cells #[.pointer (some ⟨R,0,none⟩)] 149)).alloc (.cells #[.pointer (some ⟨5,149,none⟩),.pointer (some ⟨w.1.size,0,none⟩),.int .u64 150] 206)):=(below_alloc _ _).trans ((below_alloc _ _).mono Zd)
 have hcl:((w.alloc (.cells #[.pointer (some ⟨R,0,none⟩)] 149)).alloc (.cells #[.pointer (some ⟨5,149,none⟩),.pointer (some ⟨w.1.size,0,none⟩),.int .u64 150] 206)).cell? ⟨w.1.size,0,none⟩=some (.pointer (some ⟨R,0,none⟩)):=((below_alloc (w.alloc (.cells #[.pointer (some ⟨R,0,none⟩)] 149)) (.cells #[.pointer (some ⟨5,149,none⟩),.pointer (some ⟨w.1.size,0,none⟩),.int .u64 150] 206)).cell (p:=⟨w.1.size,0,none⟩) Zd).trans (new_cell rfl)
 have n8:=Tryz.isNil149 ⟨w.1.size,0,none⟩ ⟨R,0,none⟩ ((w.alloc (.cells #[.pointer (some ⟨R,0,none⟩)] 149)).alloc (.cells #[.pointer (some ⟨5,149,none⟩),.pointer (some ⟨w.1.size,0,none⟩),.int .u64 150] 206)) hcl
 have hlt:0<w.1.size:=Za
 have hg2:=(B2.cell (p:=⟨0,0,none⟩) hlt).trans hg
 have HAS:=hid (as0_any c d R w.1.size o0 o1 ((w.alloc (.cells #[.pointer (some ⟨R,0,none⟩)] 149)).alloc (.cells #[.pointer (some ⟨5,149,none⟩),.pointer (some ⟨w.1.size,0,none⟩),.int .u64 150] 206)) (Nat.lt_of_lt_of_le hR B2.size) Zc Za ((B2.cell (p:=⟨R,0,none⟩) hR).trans h0) ((B2.cell (p:=⟨R,1,none⟩) hR).trans h1) (fun j=>(B2.frozen (p:=⟨R,j,none⟩) hR).trans (hf j)) hcl)
 have HB2:=hid B2
 clear B2 hcl h0 h1 hf
 go_enter Tryz.func103,Tryz.ntmps103
 go_wp2_with fail
 refine HAS.out.mono ?_
 rintro e w3 ⟨rfl,hf3,q0,q1⟩
 have HFIN:=hid (show FrP (fun q=>q=R) w w3∧w3.cell? ⟨R,0,none⟩=some (.int .i64 c)∧w3.cell? ⟨R,1,none⟩=some (.int .i64 d) from ⟨(FrP.of_below HB2.out).trans hf3,q0,q1⟩)
 clear hf3 q0 q1
 go_wp2
 go_ret
 exact ⟨rfl,HFIN.out⟩
theorem refusal0_any (c d:Int) (w:World) (hg:w.cell? ⟨0,0,none⟩=some (.iface 233 (.agg #[.pointer (some ⟨5,86,none⟩)]))):Calls Tryz.prog 44 #[.iface 90 (.agg #[.int .i64 c,.int .i64 d])] w fun e w'=>e=.returned (.agg #[.int .i64 c,.int .i64 d])∧Below w.1.size w w':=by
 have hlt:0<w.1.size:=by
  rcases Nat.eq_zero_or_pos w.1.size with h0|h
  ·simp [World.cell?,h0] at hg
  ·exact h
 have B2:Below w.1.size w ((w.alloc (.cells #[.int .i64 0,.int .i64 0] 90)).alloc (.cells #[.int .i64 0,.int .i64 0] 90)):=(below_alloc _ _).trans ((below_alloc _ _).mono Zd)
 have HAS:=hid (as0Top_any c d (w.1.size+1) (.int .i64 0) (.int .i64 0) ((w.alloc (.cells #[.int .i64 0,.int .i64 0] 90)).alloc (.cells #[.int .i64 0,.int .i64 0] 90)) ((B2.cell (p:=⟨0,0,none⟩) hlt).trans hg) Zd (new_cell Zd) (new_cell Zd) (fun j=>new_free Zd))
 clear B2 hg
 go_enter Tryz.func44,Tryz.ntmps44
 go_wp2_with fail
 refine HAS.out.mono ?_
 rintro e w3 ⟨rfl,hf3,q0,q1⟩
 have z3:w.1.size+1<w3.1.size:=by have:=hf3.size;simp at this;omega
 have p0:w3.cell? ⟨w.1.size,0,none⟩=some (.int .i64 0):=(hf3.cell (p:=⟨w.1.size,0,none⟩) Zc Zd).trans (((below_alloc (w.alloc (.cells #[.int .i64 0,.int .i64 0] 90)) (.cells #[.int .i64 0,.int .i64 0] 90)).cell (p:=⟨w.1.size,0,none⟩) Zd).trans (new_cell rfl))
 have p1:w3.cell? ⟨w.1.size,1,none⟩=some (.int .i64 0):=(hf3.cell (p:=⟨w.1.size,1,none⟩) Zc Zd).trans (((below_alloc (w.alloc (.cells #[.int .i64 0,.int .i64 0] 90)) (.cells #[.int .i64 0,.int .i64 0] 90)).cell (p:=⟨w.1.size,1,none⟩) Zd).trans (new_cell rfl))
 have pf:∀ j,w3.frozen? ⟨w.1.size,j,none⟩=false:=fun j=>(hf3.frozen (p:=⟨w.1.size,j,none⟩) Zc Zd).trans (((below_alloc (w.alloc (.cells #[.int .i64 0,.int .i64 0] 90)) (.cells #[.int .i64 0,.int .i64 0] 90)).frozen (p:=⟨w.1.size,j,none⟩) Zd).trans (new_free rfl))
 have HB3:=hid (show Below w.1.size w w3 from ((below_alloc _ _).trans ((below_alloc _ _).mono Zd)).trans (hf3.below (B:=w.1.size) (fun q hq e=>by omega) Zc))
 clear hf3
 go_wp2
 refine bodyPost_ret (v:=.agg #[.int .i64 c,.int .i64 d]) (by simp [results,Tryz.results44,go_sem,p0,p1]) rfl ⟨rfl,?_⟩
 exact (HB3.out.setCell Zbt _).setCell Zbt _
end Go.Proofs.YtllmmkchokkaaaaGreatDoor
namespace Go.Proofs.YtllmmkchokkaaaaGreatDoor
open Go.RowKit Go.Maps
theorem apP450 {P:Prop} (h:P:=by
  clear hwk
  go_wp2_with (go_at_call 90;refine (isName_any _ _ (by first|exact fk.z0|exact fk.z1)).mono ?_;rintro e w9 ⟨rfl,rfl⟩;first|rw [nk]|rw [nn])
  go_ret
  exact ⟨ret_bool HN.out.symm,(by repeat (first|with_reducible exact HB.out|with_reducible refine Below.alloc ?_ Zbn _|with_reducible refine Below.setCell ?_ Zbn _))⟩):P:=h
theorem bundleFits_any (x:Bu) (ua ub:Option Addr) (d1 d2:Nat) (w:World) (lo hi:Nat) (hhi:hi≤w.1.size) (hu:BuFit x) (hc:BuIn w lo hi x ua ub) :
  Calls Tryz.prog 56 #[.agg #[.slice ua x.wn d1,.slice ub x.rn d2]] w fun e w'=>e=.returned (.bool (buB x))∧Below w.1.size w w':=by
 have HU:=hid hu
 have HC:=hid hc
 clear hu hc
 by_cases hbig:10<x.wn∨10<x.rn
 ·have HN:=hid (bu_no1 hbig)
  by_cases hw:10<x.wn
  ·go_enter Tryz.func56,Tryz.ntmps56
   go_wp2
   go_ret
   exact ⟨ret_bool HN.out.symm,below_alloc _ _⟩
  ·have hr:10<x.rn:=hbig.resolve_left hw
   go_enter Tryz.func56,Tryz.ntmps56
   go_wp2
   go_ret
   exact ⟨ret_bool HN.out.symm,below_alloc _ _⟩
 have hw:x.wn≤10:=Za
 have hr:x.rn≤10:=Za
 clear hbig
 have hq:HoldN (w.alloc (.cells #[.slice ua x.wn d1,.slice ub x.rn d2] 57)) w.1.size [.slice ua x.wn d1,.slice ub x.rn d2]:=fun j hj=>by
  rw [World.cell?_alloc_new]
  rcases (show j=0∨j=1 by simp at hj;omega) with rfl|rfl<;>rfl
 have hb:=below_alloc w (.cells #[.slice ua x.wn d1,.slice ub x.rn d2] 57)
 go_enter Tryz.func56,Tryz.ntmps56
 go_upto_region 1 with fail
 generalize w.alloc (.cells #[.slice ua x.wn d1,.slice ub x.rn d2] 57)=W1 at hq hb ⊢
 have HQ:=hid hq
 have HB:=hid hb
 clear hq hb
 have q0:=HQ.out 0 Zd
 have q1:=HQ.out 1 Zd
 simp only [vec,List.getD_cons_zero,List.getD_cons_succ] at q0 q1
 go_wp2
 clear q0 q1
 go_loopw [20] (fun i wr=>∃ k:Nat,k≤x.wn∧i=.int .i64 k∧Hid (∀ j,j<k→wtB (x.ws j)=true)∧Hid (HoldN wr w.1.size [.slice ua x.wn d1,.slice ub x.rn d2])∧Hid (Below w.1.size w wr)) (fun i _=>x.wn-(intOf i).toNat)
 case atStart=>exact ⟨0,Nat.zero_le _,rfl,hid (fun j hj=>absurd hj (Nat.not_lt_zero _)),HQ,HB⟩
 case round=>
  clear HQ HB
  obtain ⟨k,hk,rfl,HA,HQ,HB⟩:=hrel
  by_cases hkn:k<x.wn
  ·obtain ⟨b,off,hu1,hlo,hbh,hcx⟩:=HC.out.wt k hkn
   subst hu1
   obtain ⟨e0,e1,e2⟩:=hcx.below HB.out Za
   clear hcx
   have fk:=HU.out.ws k hkn
   have zb:=HB.out.size
   cases hwk:wtB (x.ws k) with
   | false=>
    have HN:=hid (bu_no2 hkn hwk)
    rcases nameB_wt hwk with nk|⟨nk,nn⟩|⟨nk,nn,h0⟩
    ·exact apP450
    ·exact apP450
    ·exact apP450
   | true=>
    have HK:=hid hwk
    have nk:nameB (x.ws k).kind=true:=by unfold wtB at hwk;simp only [Bool.and_eq_true] at hwk;exact hwk.1
    have nn:nameB (x.ws k).name=true:=by unfold wtB at hwk;simp only [Bool.and_eq_true] at hwk;exact hwk.2.1
    have h0:0≤(x.ws k).ver:=by unfold wtB at hwk;simp only [Bool.and_eq_true,decide_eq_true_eq] at hwk;exact hwk.2.2
    clear hwk
    go_wp2_with (go_at_call 90;refine (isName_any _ _ (by first|exact fk.z0|exact fk.z1)).mono ?_;rintro e w9 ⟨rfl,rfl⟩;first|rw [nk]|rw [nn])
    go_roundw
    case rel=>exact ⟨k+1,Za,by go_num,hid (fun j hj=>by
     rcases Nat.lt_or_ge j k with q|q
     ·exact HA.out j q
     ·obtain rfl:j=k:=Za
      exact HK.out),hid (HQ.out.below Zbu (by have:=HB.out.size;have:=cell_lt (HQ.out 0 Zd);exact this)),hid (by repeat (first|with_reducible exact HB.out|with_reducible refine Below.alloc ?_ Zbn _|with_reducible refine Below.setCell ?_ Zbn _))⟩
    case measure=>simp [intOf];omega
  ·have hA1:=hid (show ∀ j,j<x.wn→wtB (x.ws j)=true from fun j hj=>HA.out j Za)
   clear HA
   have q0:=HQ.out 0 Zd
   have q1:=HQ.out 1 Zd
   simp only [vec,List.getD_cons_zero,List.getD_cons_succ] at q0 q1
   go_wp2
   clear q0 q1 hkn hk
   go_loopw [43] (fun i wr=>∃ k:Nat,k≤x.rn∧i=.int .i64 k∧Hid (∀ j,j<k→wrB (x.rs j)=true)∧Hid (HoldN wr w.1.size [.slice ua x.wn d1,.slice ub x.rn d2])∧Hid (Below w.1.size w wr)) (fun i _=>x.rn-(intOf i).toNat)
   case atStart=>exact ⟨0,Nat.zero_le _,rfl,hid (fun j hj=>absurd hj (Nat.not_lt_zero _)),HQ,HB⟩
   case round=>
    clear HQ HB
    obtain ⟨k,hk,rfl,HA,HQ,HB⟩:=hrel
    by_cases hkn:k<x.rn
    ·obtain ⟨b,off,hu1,hlo,hbh,hcx⟩:=HC.out.wr k hkn
     subst hu1
     obtain ⟨e0,e1,e2,e3,e4,e5⟩:=hcx.below HB.out Za
     clear hcx
     have fk:=HU.out.rs k hkn
     have zb:=HB.out.size
     have zq:w.1.size<wr.1.size:=cell_lt (HQ.out 0 Zd)
     cases nk:wrB (x.rs k) with
     | false=>
      have HN:=hid (bu_no3 hkn nk)
      go_wp2_with fail
      refine (writeFits_any (x.rs k) fk _).mono ?_
      rintro e w9 ⟨rfl,hb9⟩
      rw [nk]
      have HB9:=hid ((HB.out.alloc HB.out.size _).trans (hb9.mono Zc))
      clear hb9
      go_wp2
      go_ret
      exact ⟨ret_bool HN.out.symm,HB9.out⟩
     | true=>
      have HK:=hid nk
      go_wp2_with fail
      refine (writeFits_any (x.rs k) fk _).mono ?_
      rintro e w9 ⟨rfl,hb9⟩
      rw [nk]
      have HB9:=hid ((HB.out.alloc HB.out.size _).trans (hb9.mono Zc))
      have HQ9:=hid ((HQ.out.below Zbu zq).below hb9 Zc)
      clear hb9
      go_wp2
      go_roundw
      case rel=>exact ⟨k+1,Za,by go_num,hid (fun j hj=>by
       rcases Nat.lt_or_ge j k with q|q
       ·exact HA.out j q
       ·obtain rfl:j=k:=Za
        exact HK.out),HQ9,HB9⟩
      case measure=>simp [intOf];omega
    ·have HY:=hid (bu_yes hw hr hA1.out (fun j hj=>HA.out j Za))
     clear HA
     go_wp2
     go_ret
     exact ⟨ret_bool HY.out.symm,HB.out⟩
end Go.Proofs.YtllmmkchokkaaaaGreatDoor
namespace Go.Proofs.YtllmmkchokkaaaaGreatDoor
open Go.RowKit Go.Maps
theorem wOf_yes {B:Bk} {v:Wr} (hok:WOk B v) (h:foB B v=true):plW B v<B.on∧wOf B v=B.os (plW B v):=by
 unfold foB at h
 rw [Bool.and_eq_true] at h
 have h1:plW B v<B.on:=of_decide_eq_true h.1
 have h2:kcI B.os v.kind v.name (plW B v)=0:=of_decide_eq_true h.2
 refine ⟨h1,?_⟩
 have hfn:=fnd_place hok (place_at hok)
 rw [if_pos ⟨h1,h2⟩] at hfn
 unfold wOf fndOb
 rw [hfn]
theorem wOf_no {B:Bk} {v:Wr} (hok:WOk B v) (h:foB B v=false):wOf B v=ob0:=by
 have hfn:=fnd_place hok (place_at hok)
 unfold foB at h
 rw [if_neg (fun q=>by simp [q.1,q.2] at h)] at hfn
 unfold wOf fndOb
 rw [hfn]
theorem version_any (B:Bk) (v:Wr) (a1 a2 a3:Option Addr) (c1 c2 c3:Nat) (w:World) (lo hi:Nat) (hhi:hi≤w.1.size) (hok:WOk B v) (hc:BkIn w lo hi B a1 a2 a3) :
  Calls Tryz.prog 167 #[.agg #[.int .i64 B.now,.int .i64 B.floor,.slice a1 B.on c1,.slice a2 B.hn c2,.slice a3 B.tn c3],.agg #[.string v.kind,.string v.name]] w fun e w'=>e=.returned (.int .i64 (wOf B v).ver)∧Below w.1.size w w':=by
 have hB:Below w.1.size w ((w.alloc (.cells #[.int .i64 B.now,.int .i64 B.floor,.slice a1 B.on c1,.slice a2 B.hn c2,.slice a3 B.tn c3] 35)).alloc (.cells #[.string v.kind,.string v.name] 139)):=(below_alloc _ _).alloc Zd _
 have HOK:=hid hok
 have HC:=hid hc
 have HB:=hid hB
 clear hok hc hB
 go_enter Tryz.func167,Tryz.ntmps167
 go_wp2_with fail
 refine (place_rk B v a1 c1 _ lo hi Zc (HC.out.o.below HB.out hhi) HOK.out).mono ?_
 rintro e w1 ⟨rfl,hb1⟩
 have HB1:=hid (HB.out.trans (hb1.mono Zc))
 obtain ⟨A0,_,_,_⟩:=two_cell hb1
 have q2:=A0 2
 simp only [List.getElem?_toArray,List.getElem?_cons_succ,List.getElem?_cons_zero] at q2
 have z1:w.1.size+1<w1.1.size:=by have:=hb1.size;simp at this;omega
 clear A0 hb1
 cases hfo:foB B v with
 | false=>
  have HE:=hid (show (0:Int)=(wOf B v).ver by rw [wOf_no HOK.out hfo];rfl)
  clear q2
  go_wp2
  go_ret
  exact ⟨ret_int HE.out,HB1.out⟩
 | true=>
  obtain ⟨h1,h2⟩:=wOf_yes HOK.out hfo
  obtain ⟨b,off,ah,ch,he,hlo,hbh,hcx,_⟩:=HC.out.o (plW B v) h1
  subst he
  obtain ⟨d0,d1,d2,d3,d4,d5,d6⟩:=hcx.below HB1.out Za
  have HE:=hid h2
  have h100:=HOK.out.on
  have h1':plB B.os v.kind v.name B.on<B.on:=h1
  unfold plW at d0 d1 d2 d3 d4 d5 d6
  clear h1 h2 hcx
  go_wp2
  go_ret
  exact ⟨ret_int (by rw [HE.out];rfl),HB1.out⟩
def wtW (y:Wnt):Wr:=⟨3,y.kind,y.name,0,⟨#[]⟩,⟨#[]⟩⟩
theorem wtW_ok {B:Bk} {y:Wnt} (hf:BkFit B) (hv:allTo (chk B) 7=true) (hy:wtB y=true) (hz:WtFit y):WOk B (wtW y):=by
 unfold wtB at hy
 simp only [Bool.and_eq_true] at hy
 refine wok_of hf hv ?_ ⟨hz.z0,hz.z1,by show ((0:Nat):Int)≤_;omega,by show ((0:Nat):Int)≤_;omega⟩
 have e1:emB (⟨#[]⟩:ByteArray)=true:=by simp [emB]
 unfold wrB comB useB wtW
 simp [hy.1,hy.2.1,e1]
 exact Nat.zero_le _
def nwReg4G (_s0 z:Nat) (B:Bk) (a1 a2 a3:Option Addr) (c1 c2 c3:Nat) (y:Wnt) (i:Nat) (u:Value) (_X:World):Prop:=
 match i with
 | 0=>u=.agg #[.int .i64 B.now,.int .i64 B.floor,.slice a1 B.on c1,.slice a2 B.hn c2,.slice a3 B.tn c3]
 | 1=>u=.pointer (some ⟨z,0,none⟩)
 | 2=>u=.string y.kind
 | 3=>u=.pointer (some ⟨z,1,none⟩)
 | 4=>u=.string y.name
 | 5=>u=.agg #[.string y.kind,.string y.name]
 | 6=>u=.int .i64 (wOf B (wtW y)).ver
 | 7=>u=.pointer (some ⟨z,2,none⟩)
 | 8=>u=.int .i64 y.ver
 | 9=>u=.bool ((wOf B (wtW y)).ver != y.ver)
 | _=>True
theorem apP451 {P:Prop} (h:P:=by
  have q0:=HY.out X hb 0 Zd
  have q1:=HY.out X hb 1 Zd
  have q2:=HY.out X hb 2 Zd
  simp only [vec,List.getD_cons_zero,List.getD_cons_succ] at q0 q1 q2
  exact sg):P:=h
theorem nwReg4 (p0 p1 p3 p4 p6 p7 p8 p9 p10 p11 p12 p23 p24 p25 p26 p27 p28 o0 o1 o2 o3 o4 o5 o6 o7 o8 o9:Value) (s0 z:Nat) (B:Bk) (a1 a2 a3:Option Addr) (c1 c2 c3:Nat) (y:Wnt) (W:World) (hbk:HoldN W s0 [.int .i64 B.now,.int .i64 B.floor,.slice a1 B.on c1,.slice a2 B.hn c2,.slice a3 B.tn c3]) (hy:HoldN W z [.string y.kind,.string y.name,.int .i64 y.ver]) (hs:s0<W.1.size) (hz:z<W.1.size) (hin:BkIn W 0 s0 B a1 a2 a3) (hok:WOk B (wtW y)) (Q:Exit→Act→World→Prop)
  (hQ:∀ (t:Nat→Value) X,Below W.1.size W X→Q .normal ⟨#[p0,p1,.pointer (some ⟨s0,0,none⟩),p3,p4,.pointer (some ⟨z,0,none⟩),p6,p7,p8,p9,p10,p11,p12,t 0,t 1,t 2,t 3,t 4,t 5,t 6,t 7,t 8,.bool ((wOf B (wtW y)).ver != y.ver),p23,p24,p25,p26,p27,p28],[]⟩ X) :
  Code.wp Tryz.prog (Code.region 4 #[⟨some 13,.load 35 (.tmp 2),35, "l3_book_bundle.go:82",#[],none⟩,⟨some 14,.fieldAddr 158 (.tmp 5) 0,0, "l3_book_bundle.go:82",#[],none⟩,⟨some 15,.load 9 (.tmp 14),9, "l3_book_bundle.go:82",#[⟨1,.data⟩],none⟩,⟨some 16,.fieldAddr 158 (.tmp 5) 1,0, "l3_book_bundle.go:82",#[],none⟩,⟨some 17,.load 9 (.tmp 16),9, "l3_book_bundle.go:82",#[⟨3,.data⟩],none⟩,⟨some 18,.build 139 #[(0,.tmp 15),(1,.tmp 17)],139, "l3_book_bundle.go:82",#[⟨2,.data⟩,⟨4,.data⟩],none⟩,⟨some 19,.call ⟨.value (.func 167),#[.tmp 13,.tmp 18],#[35,139]⟩,3, "l3_book_bundle.go:82",#[⟨0,.data⟩,⟨5,.data⟩],none⟩,⟨some 20,.fieldAddr 158 (.tmp 5) 2,0, "l3_book_bundle.go:82",#[],none⟩,⟨some 21,.load 3 (.tmp 20),3, "l3_book_bundle.go:82",#[⟨7,.data⟩],none⟩,⟨some 22,.binOp .neq 3 (.tmp 19) (.tmp 21) 3,4, "l3_book_bundle.go:82",#[⟨6,.data⟩,⟨8,.data⟩],none⟩] true) Q ⟨#[p0,p1,.pointer (some ⟨s0,0,none⟩),p3,p4,.pointer (some ⟨z,0,none⟩),p6,p7,p8,p9,p10,p11,p12,o0,o1,o2,o3,o4,o5,o6,o7,o8,o9,p23,p24,p25,p26,p27,p28],[]⟩ W:=by
 have HBK:=hid (fun (X:World) (hb:Below W.1.size W X)=>hbk.below hb hs)
 have HY:=hid (fun (X:World) (hb:Below W.1.size W X)=>hy.below hb hz)
 have HIN:=hid (fun (X:World) (hb:Below W.1.size W X)=>hin.below hb Za)
 have HOK:=hid hok
 clear hbk hy hin hok
 refine regionV Zf 10 (fun t:Nat→Value=>#[p0,p1,.pointer (some ⟨s0,0,none⟩),p3,p4,.pointer (some ⟨z,0,none⟩),p6,p7,p8,p9,p10,p11,p12,t 0,t 1,t 2,t 3,t 4,t 5,t 6,t 7,t 8,t 9,p23,p24,p25,p26,p27,p28]) (fun i=>[o0,o1,o2,o3,o4,o5,o6,o7,o8,o9].getD i undef) (nwReg4G s0 z B a1 a2 a3 c1 c2 c3 y) Zf Zf (fun i u X Y _ h _=>h) rfl ?_ ?_
 ·intro i hi t X K hb hg hK
  have zX:=hb.size
  have hs2:=Nat.lt_of_lt_of_le hs zX
  have hz2:=Nat.lt_of_lt_of_le hz zX
  rcases (show i=0∨i=1∨i=2∨i=3∨i=4∨i=5∨i=6∨i=7∨i=8∨i=9 by omega) with rfl|rfl|rfl|rfl|rfl|rfl|rfl|rfl|rfl|rfl
  ·have p0:=HBK.out X hb 0 Zd
   have p1:=HBK.out X hb 1 Zd
   have p2:=HBK.out X hb 2 Zd
   have p3:=HBK.out X hb 3 Zd
   have p4:=HBK.out X hb 4 Zd
   simp only [vec,List.getD_cons_zero,List.getD_cons_succ] at p0 p1 p2 p3 p4
   exact sg
  ·exact sg
  ·have ea:t 1=.pointer (some ⟨z,0,none⟩):=hg 1 (Wt rfl)
   exact apP451
  ·exact sg
  ·have ea:t 3=.pointer (some ⟨z,1,none⟩):=hg 3 (Wt rfl)
   exact apP451
  ·have ea:t 2=.string y.kind:=hg 2 (Wt rfl)
   have eb:t 4=.string y.name:=hg 4 (Wt rfl)
   exact sg
  ·have e0:t 0=.agg #[.int .i64 B.now,.int .i64 B.floor,.slice a1 B.on c1,.slice a2 B.hn c2,.slice a3 B.tn c3]:=hg 0 (Wt rfl)
   have e5:t 5=.agg #[.string y.kind,.string y.name]:=hg 5 (Wt rfl)
   refine wpOp_of rfl rfl ?_
   have HK:=hid hK
   clear hK hg
   go_simp
   go_at_call 167
   refine (version_any B (wtW y) a1 a2 a3 c1 c2 c3 X 0 s0 Za HOK.out (HIN.out X hb)).mono ?_
   rintro r Y ⟨rfl,hbY⟩
   have h:=HK.out _ Y rfl hbY
   simpa [updT,e0,e5] using h
  ·exact sg
  ·have ea:t 7=.pointer (some ⟨z,2,none⟩):=hg 7 (Wt rfl)
   exact apP451
  ·have ea:t 6=.int .i64 (wOf B (wtW y)).ver:=hg 6 (Wt rfl)
   have eb:t 8=.int .i64 y.ver:=hg 8 (Wt rfl)
   exact sg
 ·intro t X hb hg
  have e9:t 9=.bool ((wOf B (wtW y)).ver != y.ver):=hg 9 Za
  have h:=hQ t X hb
  rw [←e9] at h
  exact h
def NwP (B:Bk) (x:Bu) (w:World) (e:Ending) (w':World):Prop:=
 Below w.1.size w w'∧((∃ k,k<x.wn∧wtF B x=k∧e=.panicked [{ v:=.iface 161 (.agg #[.int .i64 (k:Nat),.iface 90 (.agg #[.int .i64 9,.int .i64 0])]),recovered:=false }])∨((∀ j,j<x.wn→wtOk B (x.ws j)=true)∧e=.returned (.tuple #[])))
theorem needWants_any (B:Bk) (x:Bu) (a1 a2 a3:Option Addr) (c1 c2 c3:Nat) (ua ub:Option Addr) (d1:Nat) (w:World) (hf:BkFit B) (hv:allTo (chk B) 7=true) (hu:BuFit x) (hb:BuOk x) (hbk:BkIn w 0 w.1.size B a1 a2 a3) (hbu:BuIn w 0 w.1.size x ua ub) :
  Calls Tryz.prog 113 #[.agg #[.int .i64 B.now,.int .i64 B.floor,.slice a1 B.on c1,.slice a2 B.hn c2,.slice a3 B.tn c3],.slice ua x.wn d1] w fun e w'=>NwP B x w e w':=by
 have hq:HoldN (w.alloc (.cells #[.int .i64 B.now,.int .i64 B.floor,.slice a1 B.on c1,.slice a2 B.hn c2,.slice a3 B.tn c3] 35)) w.1.size [.int .i64 B.now,.int .i64 B.floor,.slice a1 B.on c1,.slice a2 B.hn c2,.slice a3 B.tn c3]:=fun j hj=>by
  rw [World.cell?_alloc_new]
  rcases (show j=0∨j=1∨j=2∨j=3∨j=4 by simp at hj;omega) with rfl|rfl|rfl|rfl|rfl<;>rfl
 have hB:=below_alloc w (.cells #[.int .i64 B.now,.int .i64 B.floor,.slice a1 B.on c1,.slice a2 B.hn c2,.slice a3 B.tn c3] 35)
 have HF:=hid hf
 have HV:=hid hv
 have HU:=hid hu
 have HO:=hid hb
 have HBK:=hid hbk
 have HBU:=hid hbu
 clear hf hv hu hb hbk hbu
 have hwn:=HO.out.wn
 go_enter Tryz.func113,Tryz.ntmps113
 go_upto_region 1 with fail
 generalize w.alloc (.cells #[.int .i64 B.now,.int .i64 B.floor,.slice a1 B.on c1,.slice a2 B.hn c2,.slice a3 B.tn c3] 35)=W1 at hq hB ⊢
 have HQ:=hid hq
 have HB:=hid hB
 clear hq hB
 go_wp2
 go_loopw [8] (fun i wr=>∃ k:Nat,k≤x.wn∧i=.int .i64 k∧Hid (∀ j,j<k→wtOk B (x.ws j)=true)∧Hid (HoldN wr w.1.size [.int .i64 B.now,.int .i64 B.floor,.slice a1 B.on c1,.slice a2 B.hn c2,.slice a3 B.tn c3])∧Hid (Below w.1.size w wr)) (fun i _=>x.wn-(intOf i).toNat)
 case atStart=>exact ⟨0,Nat.zero_le _,rfl,hid (fun j hj=>absurd hj (Nat.not_lt_zero _)),HQ,HB⟩
 case round=>
  clear HQ HB
  obtain ⟨k,hk,rfl,HA,HQ,HB⟩:=hrel
  by_cases hkn:k<x.wn
  ·obtain ⟨b,off,hu1,hlo,hbh,hcx⟩:=HBU.out.wt k hkn
   subst hu1
   obtain ⟨e0,e1,e2⟩:=hcx.below HB.out Za
   clear hcx
   have zb:=HB.out.size
   have zq:w.1.size<wr.1.size:=cell_lt (HQ.out 0 Zd)
   go_wp2
   have hy:HoldN (wr.alloc (.cells #[.string (x.ws k).kind,.string (x.ws k).name,.int .i64 (x.ws k).ver] 158)) wr.1.size [.string (x.ws k).kind,.string (x.ws k).name,.int .i64 (x.ws k).ver]:=fun j hj=>by
    rw [World.cell?_alloc_new]
    rcases (show j=0∨j=1∨j=2 by simp at hj;omega) with rfl|rfl|rfl<;>rfl
   have HQ2:=hid (HQ.out.below (below_alloc wr (.cells #[.string (x.ws k).kind,.string (x.ws k).name,.int .i64 (x.ws k).ver] 158)) zq)
   have HB2:=hid (HB.out.alloc zb (.cells #[.string (x.ws k).kind,.string (x.ws k).name,.int .i64 (x.ws k).ver] 158))
   have HY:=hid hy
   clear hy HQ HB e0 e1 e2
   refine nwReg4 _ _ _ _ _ _ _ _ _ _ _ _ _ _ _ _ _ _ _ _ _ _ _ _ _ _ _ w.1.size wr.1.size B a1 a2 a3 c1 c2 c3 (x.ws k) _ HQ2.out HY.out Zc Zd (HBK.out.below HB2.out Zbt) (wtW_ok HF.out HV.out (HO.out.ws k hkn) (HU.out.ws k hkn)) _ ?_
   intro t X hbX
   have HQ:=hid (HQ2.out.below hbX Zc)
   have HB:=hid (HB2.out.trans (hbX.mono HB2.out.size))
   clear HQ2 HB2 hbX HY
   by_cases hok:(wOf B (wtW (x.ws k))).ver=(x.ws k).ver
   ·have HK:=hid (show wtOk B (x.ws k)=true from decide_eq_true hok)
    have hbn:((wOf B (wtW (x.ws k))).ver != (x.ws k).ver)=false:=by simp [hok]
    clear hok
    go_wp2
    go_roundw
    case rel=>exact ⟨k+1,Za,by go_num,hid (fun j hj=>by
     rcases Nat.lt_or_ge j k with q|q
     ·exact HA.out j q
     ·obtain rfl:j=k:=Za
      exact HK.out),HQ,HB⟩
    case measure=>simp [intOf];omega
   ·have HK:=hid (show wtOk B (x.ws k)=false from decide_eq_false hok)
    have hbn:((wOf B (wtW (x.ws k))).ver != (x.ws k).ver)=true:=by simp [hok]
    clear hok
    go_wp2
    exact ⟨rfl,HB.out,Or.inl ⟨k,hkn,fstN_no hkn HA.out HK.out,rfl⟩⟩
  ·have hA1:=hid (show ∀ j,j<x.wn→wtOk B (x.ws j)=true from fun j hj=>HA.out j Za)
   clear HA
   go_wp2
   exact bodyPost_end (results_none rfl _ _ _) rfl ⟨HB.out,Or.inr ⟨hA1.out,rfl⟩⟩
end Go.Proofs.YtllmmkchokkaaaaGreatDoor
namespace Go.Proofs.YtllmmkchokkaaaaGreatDoor
open Go.RowKit Go.Maps
structure CapX (w:World) (B:Bk) (p:Pl) (d1 d2 K:Nat):Prop where
 o:CapG w B.on p.a1 d1
 h:CapG w B.hn p.a2 d2
 os:∀ i,i<B.on→CapG w (B.os i).hn (p.A1 i) (p.C1 i)
 ak:∀ b off,(p.a1=some ⟨b,off,none⟩∨p.a2=some ⟨b,off,none⟩)→off=0∧¬b=K
 fr:∀ b,p.a1=some ⟨b,0,none⟩→∀ j,w.frozen? ⟨b,j,none⟩=false
theorem own_ge {w:World} {base z n b off:Nat} {e:TypeId} {c:Nat} {xs:List Value} (h:w.ownsRow base e z (.slice (some ⟨b,off,none⟩) n c) n xs):off=0∧base≤b:=by
 rcases h.2 with ⟨e1,e2⟩|⟨g,cap',cur,e1,e2,e3,e4,_⟩
 ·cases e1
 ·cases e1
  exact ⟨rfl,e2⟩
theorem rowC_ch2 {w:World} {ad:Option Addr} {g n cap K:Nat} {x:Nat→Ch} {A:Nat→Option Addr} {C hb:Nat→Nat} (h:ChsAt w ad g n x A C hb) (hc:CapG w n ad cap) (hk:∀ b off,ad=some ⟨b,off,none⟩→off=0∧¬b=K) (_hg:0<n→¬g=K):∃ (c:Nat→Value) (g':Nat),¬g'=K∧RowC w 9 ad g' 0 n cap (rowCells (n*9) c)∧∀ i,i<n→atCh c i (x i) (A i) (C i):=by
 rcases Nat.eq_zero_or_pos n with h0|h0
 ·subst h0
  have hn:∀ i,i<0→atCh (fun _=>.int .i64 0) i (x i) (A i) (C i):=fun i hi=>absurd hi (Nat.not_lt_zero _)
  rcases hc.2 with ⟨e1,_,e3⟩|⟨b,off,e1,e2⟩
  ·exact ⟨fun _=>.int .i64 0,K+1,Za,⟨by simp [rowCells],fun u hu=>by simp [rowCells] at hu,Or.inl ⟨e1,rfl,e3⟩⟩,hn⟩
  ·obtain ⟨o1,o2⟩:=hk b off e1
   subst o1
   exact ⟨fun _=>.int .i64 0,b,o2,⟨by simp [rowCells],fun u hu=>by simp [rowCells] at hu,Or.inr ⟨e1,Nat.zero_le _,e2,fun t u hu=>by simp [rowCells] at hu⟩⟩,hn⟩
 ·obtain ⟨c,r,hat⟩:=h.row h0
  refine ⟨c,g,(hk g 0 (h.addr h0)).2,⟨rowCells_len _ _,fun u hu=>?_,Or.inr ⟨h.addr h0,hc.1,r.lt,fun t u hu=>?_⟩⟩,hat⟩
  ·obtain ⟨j,hj,rfl⟩:=List.mem_map.1 hu
   have hj':j<n*9:=by simpa using hj
   have:=atCh_one (hat (j / 9) Za) (j % 9) Za
   rwa [show j / 9*9+j % 9=j by omega] at this
  ·obtain ⟨h1,rfl⟩:=rowCells_get hu
   rw [Nat.zero_add]
   exact r.cell t h1
theorem bkAt_wr2 {w0 X w':World} {K:Nat} {B:Bk} {v:Wr} {p:Pl} {E:EO} {c:Nat→Value} {k1':Value} {d3:Nat} (hat:BkAt w0 B p) (hb:Below w0.1.size w0 X) (hnK:¬blkB p B K) (hcp:∀ i,i<B.on→CapG w0 (B.os i).hn (p.A1 i) (p.C1 i)) (hKX:K<X.1.size) (hok:WOk B v) (hc:wCode B v=0)
  (hch:∀ i,i<B.hn→atCh c i (B.hs i) (p.A2 i) (p.C2 i)) (hE:EOk B v (rowE B.on B.os p.A1 p.C1 p.h1) w0 X E) (hKE:E.ob.hn≠0→¬E.hb=K)
  (hP:PutR K E.ob B.now (wGone B v) k1' (.slice p.a3 B.tn d3) (L2 B v (rowE B.on B.os p.A1 p.C1 p.h1) E).length (B.hn-wCut B+1) (cellsE (L2 B v (rowE B.on B.os p.A1 p.C1 p.h1) E)) ((rowCells (B.hn*9) c).drop (wCut B*9)) X w') :
  ∃ (q:Pl) (c1' c2':Nat),RowF w' K 5 (vec [.int .i64 (B.now+1),k1',.slice q.a1 (wBk B v).on c1',.slice q.a2 (wBk B v).hn c2',.slice q.a3 (wBk B v).tn d3])∧BkAt w' (wBk B v) q∧(∀ k,blkB q (wBk B v) k→blkB p B k∨w0.1.size≤k)∧CapX w' (wBk B v) q c1' c2' K:=by
 obtain ⟨a1',c1',a2',c2',A',C',hb',ho1,ho2,hr,z1,z2,hs,hf,hd1,hd2⟩:=hP
 have hEo:=hE.1
 have hcut:=wCut_le B
 obtain ⟨hro,hho,hne⟩:=rowE_of hat.o
 have hol:(rowE B.on B.os p.A1 p.C1 p.h1).map EO.ob=tkL B.on B.os:=rowE_obs _ _ _ _ _
 obtain ⟨hl2,he2⟩:=L2_len (L:=rowE B.on B.os p.A1 p.C1 p.h1) hok hol hEo hc
 have hx:(eoV B E).ob=wOb B v:=eoV_ob hEo
 have hwb:wOb B v=⟨E.ob.kind,E.ob.name,B.now+1,E.ob.born,E.ob.text,E.ob.ending,E.ob.hn,E.ob.hs⟩:=hx.symm
 have hhn:(wOb B v).hn=E.ob.hn:=by rw [hwb]
 have F:FrP (fun q=>q=K) w0 w':=(FrP.of_below hb).trans hf
 have z0:=hb.size
 have hL:∀ e,e ∈ rowE B.on B.os p.A1 p.C1 p.h1→∃ i,i<B.on∧e=⟨B.os i,p.A1 i,p.C1 i,p.h1 i⟩:=fun e he=>by
  obtain ⟨i,hi,rfl⟩:=mem_ixE he
  rw [rowE_len] at hi
  exact ⟨i,hi,rowE_at hi⟩
 have hho':HoldE w' (rowE B.on B.os p.A1 p.C1 p.h1):=hho.fr F (fun e he h0 q=>by obtain ⟨i,hi,rfl⟩:=hL e he;exact hnK (Or.inl (Or.inr ⟨i,hi,h0,q.symm⟩)))
 have hsub:(L1 B v (rowE B.on B.os p.A1 p.C1 p.h1)).Sublist (rowE B.on B.os p.A1 p.C1 p.h1):=by
  unfold L1
  split
  ·exact List.eraseIdx_sublist _ _
  ·exact List.Sublist.refl _
 have hl1:HoldE w' (L1 B v (rowE B.on B.os p.A1 p.C1 p.h1)):=hho'.sub hsub
 -- the new object's holds
 have hEv:StrsOwn w' E.hb (E.hb+1) E.A E.ob.hn E.ob.hs∧(E.ob.hn≠0→E.hb<X.1.size)∧(∀ f,f ∈ L1 B v (rowE B.on B.os p.A1 p.C1 p.h1)→E.ob.hn≠0→f.ob.hn≠0→E.hb≠f.hb)∧(E.ob.hn≠0→blk1 p B E.hb∨w0.1.size≤E.hb):=by
  obtain ⟨_,_,h3⟩:=hE
  rcases h3 with ⟨q0,q1,q2,q3⟩|⟨q1,q2,q3,q4,q5⟩
  ·have hfi:fndIs B.os v.kind v.name B.on=true:=(code_key hc).resolve_right Za
   have hpa:=place_at hok
   have hfn:=fnd_place hok hpa
   have hfo:plW B v<B.on∧kcI B.os v.kind v.name (plW B v)=0:=by
    by_cases q:plW B v<B.on∧kcI B.os v.kind v.name (plW B v)=0
    ·exact q
    ·rw [if_neg q] at hfn
     unfold fndIs at hfi
     rw [hfn] at hfi
     cases hfi
   rw [if_pos hfo] at hfn
   have hof:wOf B v=B.os (plW B v):=by unfold wOf fndOb;rw [hfn]
   have hfb:foB B v=true:=by unfold foB;simp [hfo.1,hfo.2]
   have hix:=rowE_at (x:=B.os) (A:=p.A1) (C:=p.C1) (hb:=p.h1) hfo.1
   rw [hix] at q1 q3
   have e1:E.ob.hn=(B.os (plW B v)).hn∧E.ob.hs=(B.os (plW B v)).hs:=by
    rw [hEo,←hof]
    rcases q0 with q|q<;>simp [opOb,q]
   have hm:(⟨B.os (plW B v),p.A1 (plW B v),p.C1 (plW B v),p.h1 (plW B v)⟩:EO) ∈ rowE B.on B.os p.A1 p.C1 p.h1:=by
    rw [←hix]
    exact ixE_mem (by rw [rowE_len];exact hfo.1)
   rw [q1,q3,e1.1,e1.2]
   refine ⟨hho'.hold _ hm,fun h0=>?_,fun f hf h0 h1=>?_,fun h0=>Or.inl (Or.inr ⟨plW B v,hfo.1,h0,rfl⟩)⟩
   ·have:=hat.o.hlt _ hfo.1 h0
    show p.h1 (plW B v)<_
    omega
   ·unfold L1 at hf
    rw [if_pos hfb] at hf
    obtain ⟨j,hj,hjn,rfl⟩:=List.mem_eraseIdx_iff_getElem.1 hf
    have hj':j<B.on:=by simpa [rowE_len] using hj
    rw [←ixE_lt hj,rowE_at hj'] at h1 ⊢
    exact fun q=>hjn (hat.o.ap.inj j _ hj' hfo.1 h1 h0 q.symm)
  ·refine ⟨q5.frP hf (fun h0=>⟨hKE h0,q4 h0⟩),q4,fun f hf h0 h1=>?_,fun _=>Or.inr q3⟩
   have:=hho.lt f (hsub.subset hf) h1
   omega
 obtain ⟨hE1,hE2,hE3,hE4⟩:=hEv
 have hchar:∀ e,e ∈ L2 B v (rowE B.on B.os p.A1 p.C1 p.h1) E→e.ob.hn≠0→(blk1 p B e.hb∨w0.1.size≤e.hb)∧e.hb<X.1.size:=fun e he h0=>by
  have hold:∀ f,f ∈ L1 B v (rowE B.on B.os p.A1 p.C1 p.h1)→f.ob.hn≠0→(blk1 p B f.hb∨w0.1.size≤f.hb)∧f.hb<X.1.size:=fun f hf h1=>by
   obtain ⟨i,hi,rfl⟩:=hL f (hsub.subset hf)
   have:=hat.o.hlt i hi h1
   exact ⟨Or.inl (Or.inr ⟨i,hi,h1,rfl⟩),by show p.h1 i<_;omega⟩
  unfold L2 at he
  split at he
  ·exact hold e he h0
  ·rcases List.mem_append.1 he with q|q
   ·exact hold e (List.mem_of_mem_take q) h0
   ·rcases List.mem_cons.1 q with q|q
    ·subst q
     exact ⟨hE4 h0,hE2 h0⟩
    ·exact hold e (List.mem_of_mem_drop q) h0
 have hz:=hf.size
 have hH2:HoldE w' (L2 B v (rowE B.on B.os p.A1 p.C1 p.h1) E):=by
  unfold L2
  split
  ·exact hl1
  ·refine HoldE.ins (e:=eoV B E) (by rw [List.take_append_drop];exact hl1) hE1 (fun h0=>?_) (fun f hf h0 h1=>hE3 f (by rwa [List.take_append_drop] at hf) h0 h1)
   have:=hE2 h0
   show E.hb<_
   omega
 obtain ⟨g1,hg1⟩:=own_at ho1
 obtain ⟨g2,hg2⟩:=own_at ho2
 have hg2:=hg2 Za
 have nn:L2 B v (rowE B.on B.os p.A1 p.C1 p.h1) E≠[]→0<(L2 B v (rowE B.on B.os p.A1 p.C1 p.h1) E).length:=fun h=>List.length_pos_iff.2 h
 have hO:=obsAt_of (w:=w') (ad:=a1') (g:=g1) (L:=L2 B v (rowE B.on B.os p.A1 p.C1 p.h1) E) (fun h=>(hg1 (nn h)).1) (fun h=>by
  have q:=hg1 (nn h)
  have h9:=ho1
  rw [q.1] at h9
  exact rowE_own h9 q.2.2.2) hH2 (fun e he h0 q=>by
  have h1:=(hchar e he h0).2
  have hpos:0<(L2 B v (rowE B.on B.os p.A1 p.C1 p.h1) E).length:=List.length_pos_of_mem he
  have h2:=(hg1 hpos).2.2.1
  omega)
 have hO':=hO.congr hl2 he2
 -- the changes
 have hnw:([.int .i64 (B.now+1),.bool (wGone B v),.string E.ob.kind,.string E.ob.name,.int .i64 (B.now+1),.int .i64 E.ob.born,.string E.ob.text,.bool E.ob.ending,.slice A' E.ob.hn C']:List Value)=[.int .i64 (wCh B v).ver,.bool (wCh B v).gone,.string (wCh B v).ob.kind,.string (wCh B v).ob.name,.int .i64 (wCh B v).ob.ver,.int .i64 (wCh B v).ob.born,.string (wCh B v).ob.text,.bool (wCh B v).ob.ending,.slice A' (wCh B v).ob.hn C']:=by
  simp only [wCh,hwb]
 rw [hnw,newC_cells B c _ rfl hcut] at ho2
 have hr2:=hg2.1
 have ho2':=ho2
 rw [hr2] at ho2'
 have hC:ChsAt w' a2' g2 (wBk B v).hn (wBk B v).hs (fun i=>if i<B.hn-wCut B then p.A2 (i+wCut B) else A') (fun i=>if i<B.hn-wCut B then p.C2 (i+wCut B) else C') (fun i=>if i<B.hn-wCut B then p.h2 (i+wCut B) else hb'):=by
  have hm:(wBk B v).hn=B.hn-wCut B+1:=rfl
  have hsv:∀ i,(wBk B v).hs i=if i<B.hn-wCut B then B.hs (i+wCut B) else wCh B v:=fun i=>rfl
  refine ⟨fun _=>hr2,fun _=>⟨_,row_of_own ho2',fun i hi=>?_⟩,fun i hi=>?_,fun i hi h0=>?_,⟨fun i hi h0=>?_,fun i j hi hj h0 h1 q=>?_⟩⟩
  ·rw [hsv]
   rcases Nat.lt_or_ge i (B.hn-wCut B) with h|h
   ·simp only [if_pos h]
    exact newC_old h (hch _ Za)
   ·simp only [if_neg (Nat.not_lt.2 h)]
    obtain rfl:i=B.hn-wCut B:=Za
    exact newC_new
  ·rw [hsv]
   rcases Nat.lt_or_ge i (B.hn-wCut B) with h|h
   ·simp only [if_pos h]
    exact (hat.h.hold _ Za).frP F (fun h0=>by have:=hat.h.hlt (i+wCut B) Za h0;exact ⟨fun q=>hnK (Or.inr (Or.inl (Or.inr ⟨i+wCut B,Za,h0,q.symm⟩))),this⟩)
   ·simp only [if_neg (Nat.not_lt.2 h)]
    have e1:(wCh B v).ob.hn=E.ob.hn∧(wCh B v).ob.hs=E.ob.hs:=by simp only [wCh,hwb];exact ⟨trivial,trivial⟩
    rw [e1.1,e1.2]
    exact hs
  ·rw [hsv] at h0
   rcases Nat.lt_or_ge i (B.hn-wCut B) with h|h
   ·simp only [if_pos h] at h0 ⊢
    exact Nat.lt_of_lt_of_le (hat.h.hlt _ Za h0) F.size
   ·simp only [if_neg (Nat.not_lt.2 h)] at h0 ⊢
    exact z2 (by rw [←hhn];exact h0)
  ·simp only [hsv] at h0
   rcases Nat.lt_or_ge i (B.hn-wCut B) with h|h
   ·simp only [if_pos h] at h0 ⊢
    have:=hat.h.hlt (i+wCut B) Za h0
    omega
   ·simp only [if_neg (Nat.not_lt.2 h)] at h0 ⊢
    have:=(hd2 (by rw [←hhn];exact h0)).2 g2 hg2.2.1
    omega
  ·simp only [hsv] at h0 h1
   rcases Nat.lt_or_ge i (B.hn-wCut B) with h|h
   ·rcases Nat.lt_or_ge j (B.hn-wCut B) with k|k
    ·simp only [if_pos h,if_pos k] at h0 h1 q
     have:=hat.h.ap.inj _ _ Za Za h0 h1 q
     omega
    ·simp only [if_pos h,if_neg (Nat.not_lt.2 k)] at h0 h1 q
     have:=hat.h.hlt (i+wCut B) Za h0
     omega
   ·rcases Nat.lt_or_ge j (B.hn-wCut B) with k|k
    ·simp only [if_neg (Nat.not_lt.2 h),if_pos k] at h0 h1 q
     have:=hat.h.hlt (j+wCut B) Za h1
     omega
    ·omega
 have hT:TisAt w' p.a3 p.g3 B.tn B.ts:=hat.t.fr F (fun k hk e=>hnK (by have e':k=K:=e;rw [←e'];exact Or.inr (Or.inr hk)))
 -- what the blocks are
 have c1:∀ k,blkH g1 (wBk B v).on (fun i=>((wBk B v).os i).hn) (fun i=>(ixE (L2 B v (rowE B.on B.os p.A1 p.C1 p.h1) E) i).hb) k→(k=g1∧0<(wBk B v).on)∨((blk1 p B k∨w0.1.size≤k)∧k<X.1.size):=fun k hk=>by
  rcases hk with ⟨h0,rfl⟩|⟨i,hi,h0,rfl⟩
  ·exact Or.inl ⟨rfl,h0⟩
  ·have h0':((wBk B v).os i).hn≠0:=h0
   rw [←he2 i hi] at h0'
   exact Or.inr (hchar _ (ixE_mem Za) h0')
 have c2:∀ k,blkH g2 (wBk B v).hn (fun i=>((wBk B v).hs i).ob.hn) (fun i=>if i<B.hn-wCut B then p.h2 (i+wCut B) else hb') k→k=g2∨blk2 p B k∨(k=hb'∧E.ob.hn≠0):=fun k hk=>by
  rcases hk with ⟨_,rfl⟩|⟨i,hi,h0,rfl⟩
  ·exact Or.inl rfl
  ·have hsv:(wBk B v).hs i=if i<B.hn-wCut B then B.hs (i+wCut B) else wCh B v:=rfl
   have h0:((wBk B v).hs i).ob.hn≠0:=h0
   rw [hsv] at h0
   have hi':i<B.hn-wCut B+1:=hi
   rcases Nat.lt_or_ge i (B.hn-wCut B) with h|h
   ·simp only [if_pos h] at h0 ⊢
    exact Or.inr (Or.inl (Or.inr ⟨i+wCut B,Za,h0,rfl⟩))
   ·simp only [if_neg (Nat.not_lt.2 h)] at h0 ⊢
    exact Or.inr (Or.inr ⟨trivial,by rw [←hhn];exact h0⟩)
 have g1X:0<(wBk B v).on→X.1.size≤g1∧Value.ownBlock (.slice a1' (L2 B v (rowE B.on B.os p.A1 p.C1 p.h1) E).length c1')=some g1:=fun h=>by
  have q:=hg1 Za
  exact ⟨q.2.2.1,q.2.1⟩
 have hcl:∀ f,f ∈ L1 B v (rowE B.on B.os p.A1 p.C1 p.h1)→CapG w' f.ob.hn f.A f.C:=fun f hf=>by
  obtain ⟨i,hi,rfl⟩:=hL f (hsub.subset hf)
  exact (hcp i hi).grow F.size
 have hc2:∀ f,f ∈ L2 B v (rowE B.on B.os p.A1 p.C1 p.h1) E→CapG w' f.ob.hn f.A f.C:=fun f hf'=>by
  unfold L2 at hf'
  split at hf'
  ·exact hcl f hf'
  ·rcases List.mem_append.1 hf' with q|q
   ·exact hcl f (List.mem_of_mem_take q)
   ·rcases List.mem_cons.1 q with q|q
    ·subst q
     exact hE.2.1.2.grow hf.size
    ·exact hcl f (List.mem_of_mem_drop q)
 have hcx:CapX w' (wBk B v) ⟨a1',a2',p.a3,g1,g2,p.g3,fun i=>(ixE (L2 B v (rowE B.on B.os p.A1 p.C1 p.h1) E) i).A,fun i=>(ixE (L2 B v (rowE B.on B.os p.A1 p.C1 p.h1) E) i).C,fun i=>(ixE (L2 B v (rowE B.on B.os p.A1 p.C1 p.h1) E) i).hb,fun i=>if i<B.hn-wCut B then p.A2 (i+wCut B) else A',fun i=>if i<B.hn-wCut B then p.C2 (i+wCut B) else C',fun i=>if i<B.hn-wCut B then p.h2 (i+wCut B) else hb'⟩ c1' c2' K:=by
  refine ⟨?_,own_cap ho2,fun i hi=>?_,fun b off q=>?_,fun b q j=>?_⟩
  ·have:=own_cap ho1
   rw [hl2] at this
   exact this
  ·show CapG w' ((wBk B v).os i).hn (ixE (L2 B v (rowE B.on B.os p.A1 p.C1 p.h1) E) i).A (ixE (L2 B v (rowE B.on B.os p.A1 p.C1 p.h1) E) i).C
   rw [←he2 i hi]
   exact hc2 _ (ixE_mem Za)
  ·rcases q with q|q
   ·have q':a1'=some ⟨b,off,none⟩:=q
    rw [q'] at ho1
    obtain ⟨e1,e2⟩:=own_ge ho1
    exact ⟨e1,Za⟩
   ·have q':a2'=some ⟨b,off,none⟩:=q
    rw [q'] at ho2
    obtain ⟨e1,e2⟩:=own_ge ho2
    exact ⟨e1,Za⟩
  ·have q':a1'=some ⟨b,0,none⟩:=q
   rw [q'] at ho1
   exact ho1.frozenAt j
 rw [hl2] at hr
 refine ⟨⟨a1',a2',p.a3,g1,g2,p.g3,_,_,_,_,_,_⟩,c1',c2',hr,⟨hO',hC,hT,fun k h1 h2=>?_,fun k h1 h2=>?_,fun k h1 h2=>?_⟩,fun k h=>?_,hcx⟩
 ·rcases c1 k h1 with ⟨rfl,q⟩|⟨q1,q2⟩
  ·have a:=g1X q
   rcases c2 _ h2 with r|r|⟨r,r0⟩
   ·have:=hd1 _ g2 a.2 hg2.2.1
    omega
   ·have:=hat.h.blt r
    omega
   ·have:=(hd2 r0).1 _ a.2
    omega
  ·rcases c2 _ h2 with r|r|⟨r,r0⟩
   ·have:=hg2.2.2.1
    omega
   ·rcases q1 with q1|q1
    ·exact hat.d12 k q1 r
    ·have:=hat.h.blt r
     omega
   ·omega
 ·have h3:0<B.tn∧k=p.g3:=h2
  have h4:=hat.t.blt h3
  rcases c1 k h1 with ⟨rfl,q⟩|⟨q1,q2⟩
  ·have a:=g1X q
   omega
  ·rcases q1 with q1|q1
   ·exact hat.d13 k q1 h3
   ·omega
 ·have h3:0<B.tn∧k=p.g3:=h2
  have h4:=hat.t.blt h3
  rcases c2 _ h1 with r|r|⟨r,r0⟩
  ·have:=hg2.2.2.1
   omega
  ·exact hat.d23 k r h3
  ·omega
 ·rcases h with h|h|h
  ·rcases c1 k h with ⟨rfl,q⟩|⟨q1,q2⟩
   ·have a:=g1X q
    exact Or.inr Za
   ·rcases q1 with q1|q1
    ·exact Or.inl (Or.inl q1)
    ·exact Or.inr q1
  ·rcases c2 _ h with r|r|⟨r,r0⟩
   ·have:=hg2.2.2.1
    exact Or.inr Za
   ·exact Or.inl (Or.inr (Or.inl r))
   ·exact Or.inr Za
  ·exact Or.inl (Or.inr (Or.inr h))
theorem write_gen (B:Bk) (v:Wr) (p:Pl) (d1 d2 d3:Nat) (W:World) (K:Nat) (hok:WOk B v) (hat:BkAt W B p) (hcap:CapX W B p d1 d2 K) (hnK:¬blkB p B K) (hr:RowF W K 5 (vec [.int .i64 B.now,.int .i64 B.floor,.slice p.a1 B.on d1,.slice p.a2 B.hn d2,.slice p.a3 B.tn d3])) :
  Calls Tryz.prog 43 #[.pointer (some ⟨K,0,none⟩),.agg #[.int .i64 v.op,.string v.kind,.string v.name,.int .i64 v.seen,.string v.text,.string v.hold]] W fun e w'=>
   (¬wCode B v=0∧e=.returned (.iface 146 (.agg #[.int .i64 v.op,.string v.kind,.string v.name,.int .i64 v.seen,.string v.text,.string v.hold,.iface 90 (.agg #[.int .i64 (wCode B v),.int .i64 (oVer B v)])]))∧Below W.1.size W w') ∨
   (wCode B v=0∧e=.returned .nilIface∧FrP (fun q=>q=K) W w'∧∃ (q:Pl) (c1' c2':Nat),RowF w' K 5 (vec [.int .i64 (wBk B v).now,.int .i64 (wBk B v).floor,.slice q.a1 (wBk B v).on c1',.slice q.a2 (wBk B v).hn c2',.slice q.a3 (wBk B v).tn d3])∧BkAt w' (wBk B v) q∧CapX w' (wBk B v) q c1' c2' K∧(∀ k,blkB q (wBk B v) k→blkB p B k∨W.1.size≤k)):=by
 have hatW:=hat
 obtain ⟨hro,hho,hne⟩:=rowE_of hatW.o
 obtain ⟨c,gC,hgC,hrc',hch⟩:=rowC_ch2 hatW.h hcap.h (fun b off q=>hcap.ak b off (Or.inr q)) (fun h q=>hnK (Or.inr (Or.inl (Or.inl ⟨h,q.symm⟩))))
 have zK:=hr.lt
 have hlen:(rowE B.on B.os p.A1 p.C1 p.h1).length=B.on:=rowE_len _ _ _ _ _
 have hL:∀ e,e ∈ rowE B.on B.os p.A1 p.C1 p.h1→∃ i,i<B.on∧e=⟨B.os i,p.A1 i,p.C1 i,p.h1 i⟩:=fun e he=>by
  obtain ⟨i,hi,rfl⟩:=mem_ixE he
  rw [rowE_len] at hi
  exact ⟨i,hi,rowE_at hi⟩
 obtain ⟨g1',hg1',hin'⟩:∃ g,¬g=K∧WS W K g B v (rowE B.on B.os p.A1 p.C1 p.h1) p.a1 d1 (.int .i64 B.floor) (.slice p.a2 B.hn d2) (.slice p.a3 B.tn d3):=by
  have hho1:∀ e ∈ rowE B.on B.os p.A1 p.C1 p.h1,StrsIn W 0 W.1.size e.A e.ob.hn e.ob.hs:=fun e he=>(hho.hold e he).inW (hho.lt e he)
  have hcp1:∀ e ∈ rowE B.on B.os p.A1 p.C1 p.h1,CapG W e.ob.hn e.A e.C:=fun e he=>by
   obtain ⟨i,hi,rfl⟩:=hL e he
   exact hcap.os i hi
  rcases hcap.o.2 with ⟨e1,e2,e3⟩|⟨b,off,e1,e2⟩
  ·exact ⟨K+1,Za,hr,Or.inl ⟨e1,List.eq_nil_of_length_eq_zero (by rw [hlen];exact e2),e3⟩,rowE_obs _ _ _ _ _,hho1,hcp1,hok⟩
  ·obtain ⟨o1,o2⟩:=hcap.ak b off (Or.inl e1)
   subst o1
   refine ⟨b,o2,hr,Or.inr ⟨e1,?_,by rw [hlen];exact hcap.o.1⟩,rowE_obs _ _ _ _ _,hho1,hcp1,hok⟩
   rcases Nat.eq_zero_or_pos B.on with h0|h0
   ·have:rowE B.on B.os p.A1 p.C1 p.h1=[]:=List.eq_nil_of_length_eq_zero (by rw [hlen];exact h0)
    rw [this]
    exact ⟨e2,hcap.fr b e1,fun i hi=>absurd hi (Nat.not_lt_zero _)⟩
   ·have:=hro (fun q=>by rw [q] at hlen;simp at hlen;omega)
    rw [e1] at this
    have e9:b=p.g1:=by have:=this.1;injection this with t;injection t
    rw [e9]
    exact this.2
 have hhn:=hok.hn
 refine (into_any K g1' B v _ p.a1 d1 _ _ _ (PstD K B v (rowE B.on B.os p.A1 p.C1 p.h1) (.int .i64 (wBk B v).floor) (.slice p.a3 B.tn d3) (B.hn-wCut B+1) ((rowCells (B.hn*9) c).drop (wCut B*9))) W hin' (pst_of hin' hg1' (fun e he X hf=>?_) ?_)).mono ?_
 ·have h1:=hho.fr hf (fun f hf' h0 q=>by
   obtain ⟨i,hi,rfl⟩:=hL f hf'
   exact hnK (Or.inl (Or.inr ⟨i,hi,h0,q.symm⟩)))
  exact (h1.hold e he).inW (h1.lt e he)
 ·intro E X0 X gn A' C' o hb0 hf hrX
  have hrcX:=(hrc'.grow hb0).fr hf hgC
  by_cases h200:B.hn=200
  ·have hcut:wCut B=1:=by unfold wCut;rw [if_pos h200]
   have hfl:(wBk B v).floor=(B.hs 0).ver:=by unfold wBk;simp [h200]
   rw [hcut,hfl]
   refine (tell_full K ⟨B.now+1,gn,⟨E.ob.kind,E.ob.name,B.now+1,E.ob.born,E.ob.text,E.ob.ending,E.ob.hn,E.ob.hs⟩⟩ A' C' _ _ _ _ p.a2 gC 0 B.hn d2 (rowCells (B.hn*9) c) (B.hs 0).ver X hrX hrcX Za h200 ?_ (fun q=>hgC q.symm)).mono (fun e w' h=>h)
   rw [rowCells_idx Za]
   have:=(hch 0 Za).1
   rw [Nat.zero_mul] at this
   rw [this]
  ·have hcut:wCut B=0:=by unfold wCut;rw [if_neg h200]
   have hfl:(wBk B v).floor=B.floor:=by unfold wBk;simp [h200]
   rw [hcut,hfl,Nat.zero_mul,List.drop_zero,Nat.sub_zero]
   exact (tell_few K ⟨B.now+1,gn,⟨E.ob.kind,E.ob.name,B.now+1,E.ob.born,E.ob.text,E.ob.ending,E.ob.hn,E.ob.hs⟩⟩ A' C' _ _ _ _ p.a2 gC 0 B.hn d2 (rowCells (B.hn*9) c) X hrX hrcX Za h200).mono (fun e w' h=>h)
 ·rintro e w' (h|⟨hc,rfl,E,X,hbX,hE,hP⟩)
  ·exact Or.inl h
  ·have zX:=hbX.size
   have hKE:E.ob.hn≠0→¬E.hb=K:=fun h0 q=>by
    obtain ⟨h1,h2,h3⟩:=hE
    rcases h3 with ⟨q0,q1,q2,q3⟩|⟨q1,q2,q3,q4,q5⟩
    ·have hfi:fndIs B.os v.kind v.name B.on=true:=(code_key hc).resolve_right Za
     have hfn:=fnd_place hok (place_at hok)
     have hfo:plW B v<B.on∧kcI B.os v.kind v.name (plW B v)=0:=by
      by_cases q:plW B v<B.on∧kcI B.os v.kind v.name (plW B v)=0
      ·exact q
      ·rw [if_neg q] at hfn
       unfold fndIs at hfi
       rw [hfn] at hfi
       cases hfi
     rw [if_pos hfo] at hfn
     have hof:wOf B v=B.os (plW B v):=by unfold wOf fndOb;rw [hfn]
     have e1:E.ob.hn=(B.os (plW B v)).hn:=by
      rw [h1,←hof]
      rcases q0 with q|q<;>simp [opOb,q]
     rw [rowE_at hfo.1] at q3
     have q3':E.hb=p.h1 (plW B v):=q3
     exact hnK (Or.inl (Or.inr ⟨plW B v,hfo.1,by show (B.os (plW B v)).hn≠0;rw [←e1];exact h0,by rw [←q3'];exact q.symm⟩))
    ·omega
   obtain ⟨q,c1',c2',hr2,hat2,hbl,hcx⟩:=bkAt_wr2 (w0:=W) hat hbX hnK hcap.os Za hok hc hch hE hKE hP
   have hf:FrP (fun q=>q=K) X w':=by
    obtain ⟨_,_,_,_,_,_,_,_,_,_,_,_,_,hf,_⟩:=hP
    exact hf
   exact Or.inr ⟨hc,rfl,(FrP.of_below hbX).trans hf,q,c1',c2',hr2,hat2,hcx,hbl⟩
end Go.Proofs.YtllmmkchokkaaaaGreatDoor
