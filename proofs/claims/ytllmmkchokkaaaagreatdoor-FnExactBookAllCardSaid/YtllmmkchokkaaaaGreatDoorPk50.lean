import Derived.Test.YtllmmkchokkaaaaGreatDoorPk47
import Derived.Test.YtllmmkchokkaaaaGreatDoorPk49
set_option maxRecDepth 100000
set_option maxHeartbeats 16000000
namespace Go.Proofs.YtllmmkchokkaaaaGreatDoor
open Go.RowKit Go.Maps
structure CapA (w:World) (B:Bk) (p:Pl) (d1 d2:Nat):Prop where
 o:CapG w B.on p.a1 d1
 h:CapG w B.hn p.a2 d2
 os:∀ i,i<B.on→CapG w (B.os i).hn (p.A1 i) (p.C1 i)
 ak:∀ b off,(p.a1=some ⟨b,off,none⟩∨p.a2=some ⟨b,off,none⟩)→off=0∧b<w.1.size
 fr:∀ b,p.a1=some ⟨b,0,none⟩→∀ j,w.frozen? ⟨b,j,none⟩=false
theorem CapA.toX {w w':World} {B:Bk} {p:Pl} {d1 d2 K:Nat} (h:CapA w B p d1 d2) (hb:Below w.1.size w w') (hK:w.1.size≤K):CapX w' B p d1 d2 K:=
 ⟨h.o.grow hb.size,h.h.grow hb.size,fun i hi=>(h.os i hi).grow hb.size,fun b off q=>⟨(h.ak b off q).1,fun e=>by have:=(h.ak b off q).2;omega⟩,fun b e j=>(hb.frozen (p:=⟨b,j,none⟩) (h.ak b 0 (Or.inl e)).2).trans (h.fr b e j)⟩
structure F57 (W:World) (s0:Nat) (B:Bk) (p:Pl) (d1 d2 d3:Nat) (x:Bu) (ua ub:Option Addr) (e1 e2:Nat):Prop where
 bk:HoldN W s0 [.int .i64 B.now,.int .i64 B.floor,.slice p.a1 B.on d1,.slice p.a2 B.hn d2,.slice p.a3 B.tn d3]
 bu:HoldN W (s0+1) [.slice ua x.wn e1,.slice ub x.rn e2]
 did:RowF W (s0+1+1) 7 (vec zdd)
 nd:NoS W (s0+1+1)
 num:RowF W (s0+1+1+1) 1 (vec [.int .i64 0])
 nn:NoS W (s0+1+1+1)
theorem F57.frK {W W':World} {s0:Nat} {B:Bk} {p:Pl} {d1 d2 d3:Nat} {x:Bu} {ua ub:Option Addr} {e1 e2:Nat} (h:F57 W s0 B p d1 d2 d3 x ua ub e1 e2) {Z:Nat→Prop} (hf:FrP Z W W') (hZ:∀ q,Z q→s0+1+1+1<q):F57 W' s0 B p d1 d2 d3 x ua ub e1 e2:=by
 have hz:=h.num.lt
 have hB:Below (s0+1+1+1+1) W W':=hf.below (fun q hq e=>by have:=hZ q e;omega) Za
 exact ⟨h.bk.below hB Za,h.bu.below hB Za,h.did.below hB Za,h.nd.below hB Za,h.num.below hB Za,h.nn.below hB Za⟩
theorem F57.below {W W':World} {s0:Nat} {B:Bk} {p:Pl} {d1 d2 d3:Nat} {x:Bu} {ua ub:Option Addr} {e1 e2:Nat} (h:F57 W s0 B p d1 d2 d3 x ua ub e1 e2) (hb:Below W.1.size W W'):F57 W' s0 B p d1 d2 d3 x ua ub e1 e2:=h.frK (FrP.of_below (P:=fun _=>False) hb) (fun _ e=>e.elim)
theorem f57_new (B:Bk) (x:Bu) (p:Pl) (d1 d2 d3:Nat) (ua ub:Option Addr) (e1 e2:Nat) (w:World):F57 (((((w.alloc (.cells #[.int .i64 B.now,.int .i64 B.floor,.slice p.a1 B.on d1,.slice p.a2 B.hn d2,.slice p.a3 B.tn d3] 35)).alloc (.cells #[.slice ua x.wn e1,.slice ub x.rn e2] 57)).alloc (.cells #[.int .i64 0,.int .i64 0,.int .i64 0,.slice none 0 0,.slice none 0 0,.slice none 0 0,.int .i64 0] 37)).alloc (.cells #[.int .i64 0] 3)).alloc (.cells #[.int .i64 B.now,.int .i64 B.floor,.slice p.a1 B.on d1,.slice p.a2 B.hn d2,.slice p.a3 B.tn d3] 35)) w.1.size B p d1 d2 d3 x ua ub e1 e2∧RowF (((((w.alloc (.cells #[.int .i64 B.now,.int .i64 B.floor,.slice p.a1 B.on d1,.slice p.a2 B.hn d2,.slice p.a3 B.tn d3] 35)).alloc (.cells #[.slice ua x.wn e1,.slice ub x.rn e2] 57)).alloc (.cells #[.int .i64 0,.int .i64 0,.int .i64 0,.slice none 0 0,.slice none 0 0,.slice none 0 0,.int .i64 0] 37)).alloc (.cells #[.int .i64 0] 3)).alloc (.cells #[.int .i64 B.now,.int .i64 B.floor,.slice p.a1 B.on d1,.slice p.a2 B.hn d2,.slice p.a3 B.tn d3] 35)) (w.1.size+1+1+1+1) 5 (vec [.int .i64 B.now,.int .i64 B.floor,.slice p.a1 B.on d1,.slice p.a2 B.hn d2,.slice p.a3 B.tn d3])∧Below w.1.size w (((((w.alloc (.cells #[.int .i64 B.now,.int .i64 B.floor,.slice p.a1 B.on d1,.slice p.a2 B.hn d2,.slice p.a3 B.tn d3] 35)).alloc (.cells #[.slice ua x.wn e1,.slice ub x.rn e2] 57)).alloc (.cells #[.int .i64 0,.int .i64 0,.int .i64 0,.slice none 0 0,.slice none 0 0,.slice none 0 0,.int .i64 0] 37)).alloc (.cells #[.int .i64 0] 3)).alloc (.cells #[.int .i64 B.now,.int .i64 B.floor,.slice p.a1 B.on d1,.slice p.a2 B.hn d2,.slice p.a3 B.tn d3] 35)):=by
 have b1:=below_alloc w (.cells #[.int .i64 B.now,.int .i64 B.floor,.slice p.a1 B.on d1,.slice p.a2 B.hn d2,.slice p.a3 B.tn d3] 35)
 have b2:=below_alloc (w.alloc (.cells #[.int .i64 B.now,.int .i64 B.floor,.slice p.a1 B.on d1,.slice p.a2 B.hn d2,.slice p.a3 B.tn d3] 35)) (.cells #[.slice ua x.wn e1,.slice ub x.rn e2] 57)
 have b3:=below_alloc ((w.alloc (.cells #[.int .i64 B.now,.int .i64 B.floor,.slice p.a1 B.on d1,.slice p.a2 B.hn d2,.slice p.a3 B.tn d3] 35)).alloc (.cells #[.slice ua x.wn e1,.slice ub x.rn e2] 57)) (.cells #[.int .i64 0,.int .i64 0,.int .i64 0,.slice none 0 0,.slice none 0 0,.slice none 0 0,.int .i64 0] 37)
 have b4:=below_alloc (((w.alloc (.cells #[.int .i64 B.now,.int .i64 B.floor,.slice p.a1 B.on d1,.slice p.a2 B.hn d2,.slice p.a3 B.tn d3] 35)).alloc (.cells #[.slice ua x.wn e1,.slice ub x.rn e2] 57)).alloc (.cells #[.int .i64 0,.int .i64 0,.int .i64 0,.slice none 0 0,.slice none 0 0,.slice none 0 0,.int .i64 0] 37)) (.cells #[.int .i64 0] 3)
 have b5:=below_alloc ((((w.alloc (.cells #[.int .i64 B.now,.int .i64 B.floor,.slice p.a1 B.on d1,.slice p.a2 B.hn d2,.slice p.a3 B.tn d3] 35)).alloc (.cells #[.slice ua x.wn e1,.slice ub x.rn e2] 57)).alloc (.cells #[.int .i64 0,.int .i64 0,.int .i64 0,.slice none 0 0,.slice none 0 0,.slice none 0 0,.int .i64 0] 37)).alloc (.cells #[.int .i64 0] 3)) (.cells #[.int .i64 B.now,.int .i64 B.floor,.slice p.a1 B.on d1,.slice p.a2 B.hn d2,.slice p.a3 B.tn d3] 35)
 have r1:RowF (w.alloc (.cells #[.int .i64 B.now,.int .i64 B.floor,.slice p.a1 B.on d1,.slice p.a2 B.hn d2,.slice p.a3 B.tn d3] 35)) w.1.size 5 (vec [.int .i64 B.now,.int .i64 B.floor,.slice p.a1 B.on d1,.slice p.a2 B.hn d2,.slice p.a3 B.tn d3]):=RowF.new (l:=[.int .i64 B.now,.int .i64 B.floor,.slice p.a1 B.on d1,.slice p.a2 B.hn d2,.slice p.a3 B.tn d3]) (t:=35) Zbv
 have r2:=RowF.new (w:=w.alloc (.cells #[.int .i64 B.now,.int .i64 B.floor,.slice p.a1 B.on d1,.slice p.a2 B.hn d2,.slice p.a3 B.tn d3] 35)) (l:=[.slice ua x.wn e1,.slice ub x.rn e2]) (t:=57) Zbv
 have r3:=bx_new ((w.alloc (.cells #[.int .i64 B.now,.int .i64 B.floor,.slice p.a1 B.on d1,.slice p.a2 B.hn d2,.slice p.a3 B.tn d3] 35)).alloc (.cells #[.slice ua x.wn e1,.slice ub x.rn e2] 57))
 have r4:=RowF.new (w:=((w.alloc (.cells #[.int .i64 B.now,.int .i64 B.floor,.slice p.a1 B.on d1,.slice p.a2 B.hn d2,.slice p.a3 B.tn d3] 35)).alloc (.cells #[.slice ua x.wn e1,.slice ub x.rn e2] 57)).alloc (.cells #[.int .i64 0,.int .i64 0,.int .i64 0,.slice none 0 0,.slice none 0 0,.slice none 0 0,.int .i64 0] 37)) (l:=[.int .i64 0]) (t:=3) Zbv
 have n4:NoS ((((w.alloc (.cells #[.int .i64 B.now,.int .i64 B.floor,.slice p.a1 B.on d1,.slice p.a2 B.hn d2,.slice p.a3 B.tn d3] 35)).alloc (.cells #[.slice ua x.wn e1,.slice ub x.rn e2] 57)).alloc (.cells #[.int .i64 0,.int .i64 0,.int .i64 0,.slice none 0 0,.slice none 0 0,.slice none 0 0,.int .i64 0] 37)).alloc (.cells #[.int .i64 0] 3)) (((w.alloc (.cells #[.int .i64 B.now,.int .i64 B.floor,.slice p.a1 B.on d1,.slice p.a2 B.hn d2,.slice p.a3 B.tn d3] 35)).alloc (.cells #[.slice ua x.wn e1,.slice ub x.rn e2] 57)).alloc (.cells #[.int .i64 0,.int .i64 0,.int .i64 0,.slice none 0 0,.slice none 0 0,.slice none 0 0,.int .i64 0] 37)).1.size:=fun j s e=>by
  rw [World.cell?_alloc_new] at e
  match j,e with
  | 0,e=>cases e
  | m+1,e=>simp at e
 have r5:=RowF.new (w:=(((w.alloc (.cells #[.int .i64 B.now,.int .i64 B.floor,.slice p.a1 B.on d1,.slice p.a2 B.hn d2,.slice p.a3 B.tn d3] 35)).alloc (.cells #[.slice ua x.wn e1,.slice ub x.rn e2] 57)).alloc (.cells #[.int .i64 0,.int .i64 0,.int .i64 0,.slice none 0 0,.slice none 0 0,.slice none 0 0,.int .i64 0] 37)).alloc (.cells #[.int .i64 0] 3)) (l:=[.int .i64 B.now,.int .i64 B.floor,.slice p.a1 B.on d1,.slice p.a2 B.hn d2,.slice p.a3 B.tn d3]) (t:=35) Zbv
 simp only [World.size_alloc] at r2 r3 r4 n4 r5 b2 b3 b4 b5
 have B2:=b2.trans (b3.mono Za)
 have B25:=(B2.trans (b4.mono Za)).trans (b5.mono Za)
 have B35:=(b3.trans (b4.mono Za)).trans (b5.mono Za)
 have B45:=b4.trans (b5.mono Za)
 have h1:=r1.below B25 Za
 have h2:=r2.below B35 Za
 refine ⟨⟨fun j hj=>h1.cell j hj,fun j hj=>h2.cell j hj,r3.row.below B45 Za,NoS.below (n:=w.1.size+1+1+1) (fun j s e=>r3.no j s e) B45 Za,r4.below b5 Za,n4.below b5 Za⟩,r5,?_⟩
 exact b1.trans (B25.mono Za)
theorem ret57 {R:Ending→World→Prop} {tmps:Array Value} {W:World} {b c:Nat} {v0 v1 v2 v3 v4 v5 v6 v:Value} (hr:RowF W b 7 (vec [v0,v1,v2,v3,v4,v5,v6])) (hq:RowF W c 1 (vec [v])) (h4:tmps[4]?.getD undef=.pointer (some ⟨b,0,none⟩)) (h5:tmps[5]?.getD undef=.pointer (some ⟨c,0,none⟩)) (hR:R (.returned (.tuple #[.agg #[v0,v1,v2,v3,v4,v5,v6],v])) W) :
  Leaves Tryz.prog Tryz.f57 tmps R [] .returning W:=by
 have u0:=hr.cell 0 Za
 have u1:=hr.cell 1 Za
 have u2:=hr.cell 2 Za
 have u3:=hr.cell 3 Za
 have u4:=hr.cell 4 Za
 have u5:=hr.cell 5 Za
 have u6:=hr.cell 6 Za
 have k0:=hq.cell 0 Za
 simp only [vec,List.getD_cons_zero,List.getD_cons_succ] at u0 u1 u2 u3 u4 u5 u6 k0
 exact ⟨_,by simp only [results,Tryz.results57];simp [go_sem,h4,h5,u0,u1,u2,u3,u4,u5,u6,k0],hR⟩
theorem ans_want {B:Bk} {x:Bu} {w:World} {e:Ending} {w':World} (hk:wtF B x<x.wn) (ha:AnS 9 B 0 (wtF B x) w e w'):AnS (allC0 B x) (allB0 B x) (allV0 B x) (allN0 B x) w e w':=by
 unfold allC0 allB0 allV0 allN0
 rw [if_pos hk,if_pos (Or.inl hk),if_pos (Or.inl hk),if_pos hk]
 exact ha
theorem ans_write {B:Bk} {x:Bu} {w:World} {e:Ending} {w':World} {k:Nat} (hW:∀ j,j<x.wn→wtOk B (x.ws j)=true) (hk:k<x.rn) (hA:∀ j,j<k→wrOk B x j=true) (hN:¬wCode (runB B x.rs k) (x.rs k)=0) (ha:AnS (wCode (runB B x.rs k) (x.rs k)) B 0 k w e w'):AnS (allC0 B x) (allB0 B x) (allV0 B x) (allN0 B x) w e w':=by
 have hF:¬wtF B x<x.wn:=by have:wtF B x=x.wn:=fstN_all hW;omega
 have hG:wrF B x=k:=fstN_no hk hA (decide_eq_false hN)
 unfold allC0 allB0 allV0 allN0
 rw [hG,if_neg hF,if_pos hk,if_pos (Or.inr hk),if_pos (Or.inr hk),if_neg hF,if_pos hk]
 exact ha
theorem ans_done {B:Bk} {x:Bu} {w:World} {e:Ending} {w':World} (hW:∀ j,j<x.wn→wtOk B (x.ws j)=true) (hA:∀ j,j<x.rn→wrOk B x j=true) (ha:AnS 0 (runB B x.rs x.rn) (runB B x.rs x.rn).now 0 w e w'):AnS (allC0 B x) (allB0 B x) (allV0 B x) (allN0 B x) w e w':=by
 have hF:¬wtF B x<x.wn:=by have:wtF B x=x.wn:=fstN_all hW;omega
 have hG:¬wrF B x<x.rn:=by have:wrF B x=x.rn:=fstN_all hA;omega
 unfold allC0 allB0 allV0 allN0
 rw [if_neg hF,if_neg hG,if_neg (fun q=>q.elim hF hG),if_neg (fun q=>q.elim hF hG),if_neg hF,if_neg hG]
 exact ha
theorem allOrNone_any (B:Bk) (x:Bu) (p:Pl) (d1 d2 d3:Nat) (ua ub:Option Addr) (e1 e2:Nat) (w:World) (hf:BkFit B) (hv:allTo (chk B) 7=true) (hu:BuFit x) (hb:BuOk x) (hat:BkAt w B p) (hcap:CapA w B p d1 d2) (hbu:BuIn w 0 w.1.size x ua ub) (hg:w.cell? ⟨0,0,none⟩=some (.iface 233 (.agg #[.pointer (some ⟨5,86,none⟩)]))) (hw0:0<w.1.size) :
  Calls Tryz.prog 57 #[.agg #[.int .i64 B.now,.int .i64 B.floor,.slice p.a1 B.on d1,.slice p.a2 B.hn d2,.slice p.a3 B.tn d3],.agg #[.slice ua x.wn e1,.slice ub x.rn e2]] w fun e w'=>AnS (allC0 B x) (allB0 B x) (allV0 B x) (allN0 B x) w e w':=by
 have hmf:∀ (fn:Fn) (first cap:Array Value) (w:World),(Instr.makeFunc fn first cap).run Tryz.prog w=.ok (.func fn first cap) w:=fun _ _ _ _=>rfl
 obtain ⟨hs,hk5,hb5⟩:=f57_new B x p d1 d2 d3 ua ub e1 e2 w
 have HF:=hid hf
 have HV:=hid hv
 have HU:=hid hu
 have HO:=hid hb
 have HAT:=hid hat
 have HCAP:=hid hcap
 have HBU:=hid hbu
 have HG:=hid hg
 have HBK:=hid (hat.isIn (lo:=0) (fun _ _=>Nat.zero_le _))
 clear hf hv hu hb hat hcap hbu hg
 go_enter_defers Tryz.func57,Tryz.ntmps57
 go_wp2_with fail
 generalize (((((w.alloc (.cells #[.int .i64 B.now,.int .i64 B.floor,.slice p.a1 B.on d1,.slice p.a2 B.hn d2,.slice p.a3 B.tn d3] 35)).alloc (.cells #[.slice ua x.wn e1,.slice ub x.rn e2] 57)).alloc (.cells #[.int .i64 0,.int .i64 0,.int .i64 0,.slice none 0 0,.slice none 0 0,.slice none 0 0,.int .i64 0] 37)).alloc (.cells #[.int .i64 0] 3)).alloc (.cells #[.int .i64 B.now,.int .i64 B.floor,.slice p.a1 B.on d1,.slice p.a2 B.hn d2,.slice p.a3 B.tn d3] 35))=W5 at hs hk5 hb5 ⊢
 have HS:=hid hs
 have HK:=hid hk5
 have HB:=hid hb5
 clear hs hk5 hb5
 have zb:=HB.out.size
 have zk:=HK.out.lt
 refine (needWants_any B x p.a1 p.a2 p.a3 d1 d2 d3 ua ub e1 W5 HF.out HV.out HU.out HO.out ((HBK.out.below HB.out Zbt).upTo zb) ((HBU.out.below HB.out Zbt).mono Zbt zb)).mono ?_
 rintro e w1 ⟨hb1,(⟨k,hkn,hkF,rfl⟩|⟨hA,rfl⟩)⟩
 ·have HS0:=hid (HS.out.below hb1)
  have HB0:=hid (HB.out.trans (hb1.mono zb))
  clear HS HB HK hb1 zk zb
  have HS:=HS0
  have HB:=HB0
  clear HS0 HB0
  go_wp2
  refine leaves_cons (f:=112) (args:=#[.pointer (some ⟨w.1.size,0,none⟩),.pointer (some ⟨w.1.size+1+1,0,none⟩),.pointer (some ⟨w.1.size+1+1+1,0,none⟩)]) Zd (by simp [go_sem]) ?_
  refine (catch_panic (w.1.size) (w.1.size+1+1) (w.1.size+1+1+1) k 90 (.agg #[.int .i64 9,.int .i64 0]) (.iface 90 (.agg #[.int .i64 9,.int .i64 0])) (9) (0) [] B p.a1 p.a2 p.a3 d1 d2 d3 _ _ _ rfl HS.out.bk (by have:=HS.out.num.lt;omega) HS.out.did HS.out.num Za Za (fun X hb=>(refusal0_any 9 0 X ((Below.cell (B:=w.1.size) (HB.out.trans (hb.mono HB.out.size)) (p:=⟨0,0,none⟩) hw0).trans HG.out)))).mono ?_
  rintro e u' w9 ⟨rfl,rfl,hf9,hr9,hq9⟩
  have zb:=HB.out.size
  have HANS:AnS (9) B 0 k w (.returned (.tuple #[.agg #[.int .i64 (9),.int .i64 B.now,.int .i64 B.floor,.slice p.a1 B.on d1,.slice p.a2 B.hn d2,.slice p.a3 B.tn d3,.int .i64 0],.int .i64 (k:Nat)])) w9:=⟨HB.out.trans (hf9.below (fun q hq e=>by rcases e with e|e<;>omega) zb),p.a1,p.a2,p.a3,d1,d2,d3,rfl,(HBK.out.below (HB.out.trans (hf9.below (fun q hq e=>by rcases e with e|e<;>omega) zb)) Zbt).upTo (Nat.le_trans zb hf9.size)⟩
  exact ret57 hr9 hq9 rfl rfl (ans_want (by rw [hkF];exact hkn) (by rw [hkF];exact HANS))
 ·have HS0:=hid (HS.out.below hb1)
  have HB0:=hid (HB.out.trans (hb1.mono zb))
  have HN:=hid (show NB w1 (w.1.size+1+1+1+1) B from ⟨p,d1,d2,d3,HK.out.below hb1 zk,HAT.out.grow (HB0.out),HCAP.out.toX HB0.out Za,fun h=>by have:=HAT.out.blt h;omega⟩)
  have zk1:w.1.size+1+1+1+1<w1.1.size:=Nat.lt_of_lt_of_le zk hb1.size
  have HA:=hid hA
  clear HS HB HK hb1 zk zb hA
  have HS:=HS0
  have HB:=HB0
  clear HS0 HB0
  have q0:=HS.out.bu 0 Zd
  have q1:=HS.out.bu 1 Zd
  simp only [vec,List.getD_cons_zero,List.getD_cons_succ] at q0 q1
  go_wp2_with fail
  refine (needWrites_any B x ua ub e2 (w.1.size+1+1+1+1) w.1.size w1 HF.out HV.out HU.out HO.out (HBU.out.below HB.out Zbt) Za zk1 HN.out).mono ?_
  rintro e w2 ⟨hf2,(⟨k,hkn,hA2,hN2,rfl⟩|⟨hA2,rfl,hN2⟩)⟩
  ·have HS0:=hid (HS.out.frK hf2 (fun q e=>by have e':q=w.1.size+1+1+1+1:=e;omega))
   have HB0:=hid (HB.out.trans (hf2.below (fun q hq e=>by have e':q=w.1.size+1+1+1+1:=e;omega) HB.out.size))
   have HA2:=hid hA2
   have HN2:=hid hN2
   clear HS HB hf2 HN q0 q1 hA2 hN2
   have HS:=HS0
   have HB:=HB0
   clear HS0 HB0
   go_wp2
   refine leaves_cons (f:=112) (args:=#[.pointer (some ⟨w.1.size,0,none⟩),.pointer (some ⟨w.1.size+1+1,0,none⟩),.pointer (some ⟨w.1.size+1+1+1,0,none⟩)]) Zd (by simp [go_sem]) ?_
   refine (catch_panic (w.1.size) (w.1.size+1+1) (w.1.size+1+1+1) k 146 (.agg #[.int .i64 (x.rs k).op,.string (x.rs k).kind,.string (x.rs k).name,.int .i64 (x.rs k).seen,.string (x.rs k).text,.string (x.rs k).hold,.iface 90 (.agg #[.int .i64 (wCode (runB B x.rs k) (x.rs k)),.int .i64 (oVer (runB B x.rs k) (x.rs k))])]) (.iface 146 (.agg #[.int .i64 (x.rs k).op,.string (x.rs k).kind,.string (x.rs k).name,.int .i64 (x.rs k).seen,.string (x.rs k).text,.string (x.rs k).hold,.iface 90 (.agg #[.int .i64 (wCode (runB B x.rs k) (x.rs k)),.int .i64 (oVer (runB B x.rs k) (x.rs k))])])) (wCode (runB B x.rs k) (x.rs k)) (oVer (runB B x.rs k) (x.rs k)) [] B p.a1 p.a2 p.a3 d1 d2 d3 _ _ _ rfl HS.out.bk (by have:=HS.out.num.lt;omega) HS.out.did HS.out.num Za Za (fun X hb=>(refusalOf_any (x.rs k) _ _ X ((Below.cell (B:=w.1.size) (HB.out.trans (hb.mono HB.out.size)) (p:=⟨0,0,none⟩) hw0).trans HG.out)))).mono ?_
   rintro e u' w9 ⟨rfl,rfl,hf9,hr9,hq9⟩
   have zb:=HB.out.size
   have HANS:AnS (wCode (runB B x.rs k) (x.rs k)) B 0 k w (.returned (.tuple #[.agg #[.int .i64 (wCode (runB B x.rs k) (x.rs k)),.int .i64 B.now,.int .i64 B.floor,.slice p.a1 B.on d1,.slice p.a2 B.hn d2,.slice p.a3 B.tn d3,.int .i64 0],.int .i64 (k:Nat)])) w9:=⟨HB.out.trans (hf9.below (fun q hq e=>by rcases e with e|e<;>omega) zb),p.a1,p.a2,p.a3,d1,d2,d3,rfl,(HBK.out.below (HB.out.trans (hf9.below (fun q hq e=>by rcases e with e|e<;>omega) zb)) Zbt).upTo (Nat.le_trans zb hf9.size)⟩
   exact ret57 hr9 hq9 rfl rfl (ans_write HA.out hkn HA2.out HN2.out HANS)
  ·have HS0:=hid (HS.out.frK hf2 (fun q e=>by have e':q=w.1.size+1+1+1+1:=e;omega))
   have HB0:=hid (HB.out.trans (hf2.below (fun q hq e=>by have e':q=w.1.size+1+1+1+1:=e;omega) HB.out.size))
   have HA2:=hid hA2
   obtain ⟨q,g1,g2,g3,hrow,hat2,_,_⟩:=hN2
   have HROW:=hid hrow
   have HAT2:=hid hat2
   clear HS HB hf2 HN q0 q1 hA2 hrow hat2
   have HS:=HS0
   have HB:=HB0
   clear HS0 HB0
   have m0:=HROW.out.cell 0 Za
   have m1:=HROW.out.cell 1 Za
   have m2:=HROW.out.cell 2 Za
   have m3:=HROW.out.cell 3 Za
   have m4:=HROW.out.cell 4 Za
   simp only [vec,List.getD_cons_zero,List.getD_cons_succ] at m0 m1 m2 m3 m4
   have r0:=HS.out.did.cell 0 Za
   have r1:=HS.out.did.cell 1 Za
   have r2:=HS.out.did.cell 2 Za
   have r3:=HS.out.did.cell 3 Za
   have r4:=HS.out.did.cell 4 Za
   have r5:=HS.out.did.cell 5 Za
   have r6:=HS.out.did.cell 6 Za
   have rf:=HS.out.did.free
   have rz:=HS.out.did.lt
   have k0:=HS.out.num.cell 0 Za
   have kf:=HS.out.num.free
   simp only [vec,zdd,List.getD_cons_zero,List.getD_cons_succ] at r0 r1 r2 r3 r4 r5 r6 k0
   have F7:=fr7 (w:=w2) (z:=w.1.size+1+1) (.int .i64 0) (.int .i64 (runB B x.rs x.rn).now) (.int .i64 (runB B x.rs x.rn).floor) (.slice q.a1 (runB B x.rs x.rn).on g1) (.slice q.a2 (runB B x.rs x.rn).hn g2) (.slice q.a3 (runB B x.rs x.rn).tn g3) (.int .i64 (runB B x.rs x.rn).now)
   have R7:=row7 (v0:=.int .i64 0) (v1:=.int .i64 (runB B x.rs x.rn).now) (v2:=.int .i64 (runB B x.rs x.rn).floor) (v3:=.slice q.a1 (runB B x.rs x.rn).on g1) (v4:=.slice q.a2 (runB B x.rs x.rn).hn g2) (v5:=.slice q.a3 (runB B x.rs x.rn).tn g3) (v6:=.int .i64 (runB B x.rs x.rn).now) HS.out.did
   have N7:=HS.out.num.fr F7 (fun e=>by have e':w.1.size+1+1+1=w.1.size+1+1:=e;omega)
   have G8:=fun (X:World)=>(FrP.refl (fun q=>q=w.1.size+1+1+1) X).setCell (p:=⟨w.1.size+1+1+1,0,none⟩) rfl (.int .i64 0)
   have HR8:=hid (R7.fr (G8 _) (fun e=>by have e':w.1.size+1+1=w.1.size+1+1+1:=e;omega))
   have HN8:=hid (N7.set (o:=0) Za (.int .i64 0))
   have HF8:=hid ((F7.mono (Q:=fun q=>q=w.1.size+1+1∨q=w.1.size+1+1+1) (fun q e=>Or.inl e)).trans ((G8 _).mono (fun q e=>Or.inr e)))
   clear F7 R7 N7 G8
   go_wp2
   refine leaves_cons (f:=112) (args:=#[.pointer (some ⟨w.1.size,0,none⟩),.pointer (some ⟨w.1.size+1+1,0,none⟩),.pointer (some ⟨w.1.size+1+1+1,0,none⟩)]) Zd (by simp [go_sem]) ?_
   refine (catch_idle _ _ _ _).mono ?_
   rintro e u' w9 ⟨rfl,rfl,rfl⟩
   have zb:=HB.out.size
   have hat9:=HAT2.out.fr HF8.out (fun k hk e=>by
    obtain ⟨j,s,hs⟩:=HAT2.out.str hk
    rcases e with e|e
    ·exact ne_box HS.out.nd hs e
    ·exact ne_box HS.out.nn hs e)
   exact ret57 HR8.out (HN8.out.congr (d:=vec [.int .i64 0]) (fun j hj=>by obtain rfl:j=0:=Za;rfl)) rfl rfl (ans_done HA.out HA2.out ⟨HB.out.trans (HF8.out.below (fun q hq e=>by rcases e with e|e<;>omega) zb),q.a1,q.a2,q.a3,g1,g2,g3,rfl,hat9.isIn (fun _ _=>Nat.zero_le _)⟩)
def AnI (C:Int) (Y:Bk) (V:Int) (n:Nat) (w:World) (e:Ending) (w':World):Prop:=
 ∃ (g:Pl) (m1 m2 m3:Nat),e=.returned (.tuple #[.agg #[.int .i64 C,.int .i64 Y.now,.int .i64 Y.floor,.slice g.a1 Y.on m1,.slice g.a2 Y.hn m2,.slice g.a3 Y.tn m3,.int .i64 V],.int .i64 n])∧BkAt w' Y g∧(∀ q,blkB g Y q→w.1.size≤q)∧Below w.1.size w w'
theorem CapA.grow {w w':World} {B:Bk} {p:Pl} {d1 d2:Nat} (h:CapA w B p d1 d2) (hb:Below w.1.size w w'):CapA w' B p d1 d2:=
 ⟨h.o.grow hb.size,h.h.grow hb.size,fun i hi=>(h.os i hi).grow hb.size,fun b off q=>⟨(h.ak b off q).1,Nat.lt_of_lt_of_le (h.ak b off q).2 hb.size⟩,fun b e j=>(hb.frozen (p:=⟨b,j,none⟩) (h.ak b 0 (Or.inl e)).2).trans (h.fr b e j)⟩
theorem ret20 {Q:Ending→World→Prop} {tmps:Array Value} {W:World} {b:Nat} {v0 v1 v2 v3 v4 v5 v6:Value} {n:Int} (hr:RowF W b 7 (vec [v0,v1,v2,v3,v4,v5,v6])) (h4:tmps[4]?.getD undef=.pointer (some ⟨b,0,none⟩)) (h5:tmps[5]?.getD undef=.int .i64 n) (hQ:Q (.returned (.tuple #[.agg #[v0,v1,v2,v3,v4,v5,v6],.int .i64 n])) W) :
  bodyPost Tryz.prog Tryz.f20 Q .ret ⟨tmps,[]⟩ W:=by
 have u0:=hr.cell 0 Za
 have u1:=hr.cell 1 Za
 have u2:=hr.cell 2 Za
 have u3:=hr.cell 3 Za
 have u4:=hr.cell 4 Za
 have u5:=hr.cell 5 Za
 have u6:=hr.cell 6 Za
 simp only [vec,List.getD_cons_zero,List.getD_cons_succ] at u0 u1 u2 u3 u4 u5 u6
 exact bodyPost_ret (v:=.tuple #[.agg #[v0,v1,v2,v3,v4,v5,v6],.int .i64 n]) (by simp only [results,Tryz.results20];simp [go_sem,h4,h5,u0,u1,u2,u3,u4,u5,u6]) rfl hQ
theorem implAll_bad (B:Bk) (x:Bu) (p:Pl) (c1 c2 c3:Nat) (u1 u2:Option Addr) (d1 d2:Nat) (w:World) (hf:BkFit B) (hu:BuFit x) (hat:BkAt w B p) (hcap:CapA w B p c1 c2) (hbu:BuIn w 0 w.1.size x u1 u2) (hv:allTo (chk B) 7=false) :
  Calls Tryz.prog 20 #[.agg #[.int .i64 B.now,.int .i64 B.floor,.slice p.a1 B.on c1,.slice p.a2 B.hn c2,.slice p.a3 B.tn c3],.agg #[.slice u1 x.wn d1,.slice u2 x.rn d2]] w fun e w'=>AnI 1 bk0 0 0 w e w':=by
 have HV:=hid hv
 clear hv
 have hbk:=hat.isIn (lo:=0) (fun _ _=>Nat.zero_le _)
 have hs:=a3_new w B p.a1 p.a2 p.a3 c1 c2 c3 x u1 u2 d1 d2 hbk hbu
 have hb:=(((Below.refl w.1.size w).alloc Zbt (.cells #[.int .i64 B.now,.int .i64 B.floor,.slice p.a1 B.on c1,.slice p.a2 B.hn c2,.slice p.a3 B.tn c3] 35)).alloc Zd (.cells #[.slice u1 x.wn d1,.slice u2 x.rn d2] 57)).alloc Zc (.cells #[.int .i64 0,.int .i64 0,.int .i64 0,.slice none 0 0,.slice none 0 0,.slice none 0 0,.int .i64 0] 37)
 have HF:=hid hf
 have HU:=hid hu
 have HAT:=hid hat
 have HCAP:=hid hcap
 clear hf hu hat hcap
 go_enter Tryz.func20,Tryz.ntmps20
 go_upto_region 1 with fail
 generalize (((w.alloc (.cells #[.int .i64 B.now,.int .i64 B.floor,.slice p.a1 B.on c1,.slice p.a2 B.hn c2,.slice p.a3 B.tn c3] 35)).alloc (.cells #[.slice u1 x.wn d1,.slice u2 x.rn d2] 57)).alloc (.cells #[.int .i64 0,.int .i64 0,.int .i64 0,.slice none 0 0,.slice none 0 0,.slice none 0 0,.int .i64 0] 37))=W1 at hs hb ⊢
 have HS:=hid hs
 have HB:=hid hb
 clear hs hb hbk hbu
 have p0:=HS.out.bk 0 Zd
 have p1:=HS.out.bk 1 Zd
 have p2:=HS.out.bk 2 Zd
 have p3:=HS.out.bk 3 Zd
 have p4:=HS.out.bk 4 Zd
 simp only [vec,List.getD_cons_zero,List.getD_cons_succ] at p0 p1 p2 p3 p4
 go_wp2_with fail
 refine (implValid_any B p.a1 p.a2 p.a3 c1 c2 c3 W1 0 w.1.size HB.out.size HF.out HS.out.bin).mono ?_
 rintro e w1 ⟨rfl,hb1⟩
 have HS0:=hid (HS.out.below hb1)
 have HB0:=hid (HB.out.trans (hb1.mono HB.out.size))
 clear HS HB hb1 p0 p1 p2 p3 p4
 have HS:=HS0
 have HB:=HB0
 clear HS0 HB0
 rw [HV.out]
 have r0:=HS.out.ans.row.cell 0 Za
 have r1:=HS.out.ans.row.cell 1 Za
 have r2:=HS.out.ans.row.cell 2 Za
 have r3:=HS.out.ans.row.cell 3 Za
 have r4:=HS.out.ans.row.cell 4 Za
 have r5:=HS.out.ans.row.cell 5 Za
 have r6:=HS.out.ans.row.cell 6 Za
 have rf:=HS.out.ans.row.free
 have rz:=HS.out.ans.row.lt
 simp only [vec,zdd,List.getD_cons_zero,List.getD_cons_succ] at r0 r1 r2 r3 r4 r5 r6
 have zz:=HS.out.ans.row.lt
 have zb:=HB.out.size
 go_wp2
 refine ret20 (row7 HS.out.ans.row) rfl rfl ⟨⟨none,none,none,0,0,0,fun _=>none,fun _=>0,fun _=>0,fun _=>none,fun _=>0,fun _=>0⟩,0,0,0,rfl,bkAt0 _ _,fun q hq=>(blkB0 hq).elim,?_⟩
 exact HB.out.trans ((fr7 (.int .i64 1) (.int .i64 0) (.int .i64 0) (.slice none 0 0) (.slice none 0 0) (.slice none 0 0) (.int .i64 0)).below (fun q hq e=>by have e':q=w.1.size+1+1:=e;omega) zb)
theorem implAll_miss (B:Bk) (x:Bu) (p:Pl) (c1 c2 c3:Nat) (u1 u2:Option Addr) (d1 d2:Nat) (w:World) (hf:BkFit B) (hu:BuFit x) (hat:BkAt w B p) (hcap:CapA w B p c1 c2) (hbu:BuIn w 0 w.1.size x u1 u2) (hv:allTo (chk B) 7=true) (hn:buB x=false) :
  Calls Tryz.prog 20 #[.agg #[.int .i64 B.now,.int .i64 B.floor,.slice p.a1 B.on c1,.slice p.a2 B.hn c2,.slice p.a3 B.tn c3],.agg #[.slice u1 x.wn d1,.slice u2 x.rn d2]] w fun e w'=>AnI 2 B 0 0 w e w':=by
 have HV:=hid hv
 have HN:=hid hn
 clear hv hn
 have hbk:=hat.isIn (lo:=0) (fun _ _=>Nat.zero_le _)
 have hs:=a3_new w B p.a1 p.a2 p.a3 c1 c2 c3 x u1 u2 d1 d2 hbk hbu
 have hb:=(((Below.refl w.1.size w).alloc Zbt (.cells #[.int .i64 B.now,.int .i64 B.floor,.slice p.a1 B.on c1,.slice p.a2 B.hn c2,.slice p.a3 B.tn c3] 35)).alloc Zd (.cells #[.slice u1 x.wn d1,.slice u2 x.rn d2] 57)).alloc Zc (.cells #[.int .i64 0,.int .i64 0,.int .i64 0,.slice none 0 0,.slice none 0 0,.slice none 0 0,.int .i64 0] 37)
 have HF:=hid hf
 have HU:=hid hu
 have HAT:=hid hat
 have HCAP:=hid hcap
 clear hf hu hat hcap
 go_enter Tryz.func20,Tryz.ntmps20
 go_upto_region 1 with fail
 generalize (((w.alloc (.cells #[.int .i64 B.now,.int .i64 B.floor,.slice p.a1 B.on c1,.slice p.a2 B.hn c2,.slice p.a3 B.tn c3] 35)).alloc (.cells #[.slice u1 x.wn d1,.slice u2 x.rn d2] 57)).alloc (.cells #[.int .i64 0,.int .i64 0,.int .i64 0,.slice none 0 0,.slice none 0 0,.slice none 0 0,.int .i64 0] 37))=W1 at hs hb ⊢
 have HS:=hid hs
 have HB:=hid hb
 clear hs hb hbk hbu
 have p0:=HS.out.bk 0 Zd
 have p1:=HS.out.bk 1 Zd
 have p2:=HS.out.bk 2 Zd
 have p3:=HS.out.bk 3 Zd
 have p4:=HS.out.bk 4 Zd
 simp only [vec,List.getD_cons_zero,List.getD_cons_succ] at p0 p1 p2 p3 p4
 go_wp2_with fail
 refine (implValid_any B p.a1 p.a2 p.a3 c1 c2 c3 W1 0 w.1.size HB.out.size HF.out HS.out.bin).mono ?_
 rintro e w1 ⟨rfl,hb1⟩
 have HS0:=hid (HS.out.below hb1)
 have HB0:=hid (HB.out.trans (hb1.mono HB.out.size))
 clear HS HB hb1 p0 p1 p2 p3 p4
 have HS:=HS0
 have HB:=HB0
 clear HS0 HB0
 rw [HV.out]
 have q0:=HS.out.bu 0 Zd
 have q1:=HS.out.bu 1 Zd
 simp only [vec,List.getD_cons_zero,List.getD_cons_succ] at q0 q1
 go_wp2_with fail
 refine (bundleFits_any x u1 u2 d1 d2 w1 0 w.1.size HB.out.size HU.out HS.out.uin).mono ?_
 rintro e w2 ⟨rfl,hb2⟩
 rw [HN.out]
 have HS0:=hid (HS.out.below hb2)
 have HB0:=hid (HB.out.trans (hb2.mono HB.out.size))
 clear HS HB hb2 q0 q1
 have HS:=HS0
 have HB:=HB0
 clear HS0 HB0
 have p0:=HS.out.bk 0 Zd
 have p1:=HS.out.bk 1 Zd
 have p2:=HS.out.bk 2 Zd
 have p3:=HS.out.bk 3 Zd
 have p4:=HS.out.bk 4 Zd
 simp only [vec,List.getD_cons_zero,List.getD_cons_succ] at p0 p1 p2 p3 p4
 go_wp2_with fail
 refine (bookCopy_any B p.a1 p.a2 p.a3 c1 c2 c3 w2 0 w.1.size HB.out.size HF.out HS.out.bin).mono ?_
 rintro e w3 ⟨g,m1,m2,m3,rfl,_,hat3,hq3,hb3⟩
 have zz2:=HS.out.ans.row.lt
 have zb2:=HB.out.size
 have HS0:=hid (HS.out.below hb3)
 have HB0:=hid (HB.out.trans (hb3.mono HB.out.size))
 have HAT3:=hid hat3
 have HQ3:=hid hq3
 clear HS HB hb3 hat3 hq3 p0 p1 p2 p3 p4
 have HS:=HS0
 have HB:=HB0
 clear HS0 HB0
 have r0:=HS.out.ans.row.cell 0 Za
 have r1:=HS.out.ans.row.cell 1 Za
 have r2:=HS.out.ans.row.cell 2 Za
 have r3:=HS.out.ans.row.cell 3 Za
 have r4:=HS.out.ans.row.cell 4 Za
 have r5:=HS.out.ans.row.cell 5 Za
 have r6:=HS.out.ans.row.cell 6 Za
 have rf:=HS.out.ans.row.free
 have rz:=HS.out.ans.row.lt
 simp only [vec,zdd,List.getD_cons_zero,List.getD_cons_succ] at r0 r1 r2 r3 r4 r5 r6
 have zz:=HS.out.ans.row.lt
 have zb:=HB.out.size
 go_wp2
 refine ret20 (row7 HS.out.ans.row) rfl rfl ⟨g,m1,m2,m3,rfl,HAT3.out.fr (fr7 (.int .i64 2) (.int .i64 B.now) (.int .i64 B.floor) (.slice g.a1 B.on m1) (.slice g.a2 B.hn m2) (.slice g.a3 B.tn m3) (.int .i64 0)) (fun k hk e=>?_),fun q hq=>Nat.le_trans zb2 (HQ3.out q hq),?_⟩
 ·have e':k=w.1.size+1+1:=e
  have:=HQ3.out k hk
  omega
 ·exact HB.out.trans ((fr7 (.int .i64 2) (.int .i64 B.now) (.int .i64 B.floor) (.slice g.a1 B.on m1) (.slice g.a2 B.hn m2) (.slice g.a3 B.tn m3) (.int .i64 0)).below (fun q hq e=>by have e':q=w.1.size+1+1:=e;omega) zb)
theorem implAll_go (B:Bk) (x:Bu) (p:Pl) (c1 c2 c3:Nat) (u1 u2:Option Addr) (d1 d2:Nat) (w:World) (hf:BkFit B) (hu:BuFit x) (hat:BkAt w B p) (hcap:CapA w B p c1 c2) (hbu:BuIn w 0 w.1.size x u1 u2) (hd:DidFit (allB B x)) (hv:allTo (chk B) 7=true) (hn:buB x=true) (hg:w.cell? ⟨0,0,none⟩=some (.iface 233 (.agg #[.pointer (some ⟨5,86,none⟩)]))) (hw0:0<w.1.size) :
  Calls Tryz.prog 20 #[.agg #[.int .i64 B.now,.int .i64 B.floor,.slice p.a1 B.on c1,.slice p.a2 B.hn c2,.slice p.a3 B.tn c3],.agg #[.slice u1 x.wn d1,.slice u2 x.rn d2]] w fun e w'=>AnI (allC B x) (allB B x) (allV B x) (allN B x) w e w':=by
 have HV:=hid hv
 have HN:=hid hn
 have HD:=hid hd
 have HG:=hid hg
 have eC:allC0 B x=allC B x:=by unfold allC;rw [if_pos hv,if_pos hn]
 have eB:allB0 B x=allB B x:=by unfold allB;rw [if_pos hv,if_pos hn]
 have eV:allV0 B x=allV B x:=by unfold allV;rw [if_pos hv,if_pos hn]
 have eN:allN0 B x=allN B x:=by unfold allN;rw [if_pos hv,if_pos hn]
 have HE:=hid (And.intro eC (And.intro eB (And.intro eV eN)))
 clear hv hn hd hg eC eB eV eN
 have hbk:=hat.isIn (lo:=0) (fun _ _=>Nat.zero_le _)
 have hs:=a3_new w B p.a1 p.a2 p.a3 c1 c2 c3 x u1 u2 d1 d2 hbk hbu
 have hb:=(((Below.refl w.1.size w).alloc Zbt (.cells #[.int .i64 B.now,.int .i64 B.floor,.slice p.a1 B.on c1,.slice p.a2 B.hn c2,.slice p.a3 B.tn c3] 35)).alloc Zd (.cells #[.slice u1 x.wn d1,.slice u2 x.rn d2] 57)).alloc Zc (.cells #[.int .i64 0,.int .i64 0,.int .i64 0,.slice none 0 0,.slice none 0 0,.slice none 0 0,.int .i64 0] 37)
 have HF:=hid hf
 have HU:=hid hu
 have HAT:=hid hat
 have HCAP:=hid hcap
 clear hf hu hat hcap
 go_enter Tryz.func20,Tryz.ntmps20
 go_upto_region 1 with fail
 generalize (((w.alloc (.cells #[.int .i64 B.now,.int .i64 B.floor,.slice p.a1 B.on c1,.slice p.a2 B.hn c2,.slice p.a3 B.tn c3] 35)).alloc (.cells #[.slice u1 x.wn d1,.slice u2 x.rn d2] 57)).alloc (.cells #[.int .i64 0,.int .i64 0,.int .i64 0,.slice none 0 0,.slice none 0 0,.slice none 0 0,.int .i64 0] 37))=W1 at hs hb ⊢
 have HS:=hid hs
 have HB:=hid hb
 clear hs hb hbk hbu
 have p0:=HS.out.bk 0 Zd
 have p1:=HS.out.bk 1 Zd
 have p2:=HS.out.bk 2 Zd
 have p3:=HS.out.bk 3 Zd
 have p4:=HS.out.bk 4 Zd
 simp only [vec,List.getD_cons_zero,List.getD_cons_succ] at p0 p1 p2 p3 p4
 go_wp2_with fail
 refine (implValid_any B p.a1 p.a2 p.a3 c1 c2 c3 W1 0 w.1.size HB.out.size HF.out HS.out.bin).mono ?_
 rintro e w1 ⟨rfl,hb1⟩
 have HS0:=hid (HS.out.below hb1)
 have HB0:=hid (HB.out.trans (hb1.mono HB.out.size))
 clear HS HB hb1 p0 p1 p2 p3 p4
 have HS:=HS0
 have HB:=HB0
 clear HS0 HB0
 rw [HV.out]
 have q0:=HS.out.bu 0 Zd
 have q1:=HS.out.bu 1 Zd
 simp only [vec,List.getD_cons_zero,List.getD_cons_succ] at q0 q1
 go_wp2_with fail
 refine (bundleFits_any x u1 u2 d1 d2 w1 0 w.1.size HB.out.size HU.out HS.out.uin).mono ?_
 rintro e w2 ⟨rfl,hb2⟩
 rw [HN.out]
 have HS0:=hid (HS.out.below hb2)
 have HB0:=hid (HB.out.trans (hb2.mono HB.out.size))
 clear HS HB hb2 q0 q1
 have HS:=HS0
 have HB:=HB0
 clear HS0 HB0
 have p0:=HS.out.bk 0 Zd
 have p1:=HS.out.bk 1 Zd
 have p2:=HS.out.bk 2 Zd
 have p3:=HS.out.bk 3 Zd
 have p4:=HS.out.bk 4 Zd
 have q0:=HS.out.bu 0 Zd
 have q1:=HS.out.bu 1 Zd
 simp only [vec,List.getD_cons_zero,List.getD_cons_succ] at p0 p1 p2 p3 p4 q0 q1
 have zz:=HS.out.ans.row.lt
 have zb:=HB.out.size
 go_wp2_with fail
 refine (allOrNone_any B x p c1 c2 c3 u1 u2 d1 d2 w2 HF.out HV.out HU.out (buOk_of HN.out) (HAT.out.grow HB.out) (HCAP.out.grow HB.out) (HS.out.uin.mono Zbt zb) ((HB.out.cell (p:=⟨0,0,none⟩) hw0).trans HG.out) (Nat.lt_of_lt_of_le hw0 zb)).mono ?_
 rw [HE.out.1,HE.out.2.1,HE.out.2.2.1,HE.out.2.2.2]
 rintro e w3 ⟨hb3,b1,b2,b3,e1,e2,e3,rfl,hin⟩
 have HS0:=hid (HS.out.below hb3)
 have HB0:=hid (HB.out.trans (hb3.mono HB.out.size))
 have HIN:=hid hin
 clear HS HB hb3 hin p0 p1 p2 p3 p4 q0 q1 zz zb
 have HS:=HS0
 have HB:=HB0
 clear HS0 HB0
 have zz:=HS.out.ans.row.lt
 go_wp2_with fail
 refine (bookCopy_any (allB B x) b1 b2 b3 e1 e2 e3 _ 0 w3.1.size Zd HD.out.fit (HIN.out.below Zbu Zbt)).mono ?_
 rintro e w4 ⟨g,m1,m2,m3,rfl,_,hat4,hq4,hb4⟩
 have R3:=RowF.new (l:=[.int .i64 (allC B x),.int .i64 (allB B x).now,.int .i64 (allB B x).floor,.slice b1 (allB B x).on e1,.slice b2 (allB B x).hn e2,.slice b3 (allB B x).tn e3,.int .i64 (allV B x)]) hb4
 have HS0:=hid ((HS.out.below Zbu).below hb4)
 have HB0:=hid ((HB.out.alloc HB.out.size _).trans (hb4.mono (by have:=HB.out.size;simp;omega)))
 have HA4:=hid hat4
 have HQ4:=hid (show ∀ q,blkB g (allB B x) q→w3.1.size<q from fun q hq=>by have:=hq4 q hq;simp at this;omega)
 have z3:w3.1.size<w4.1.size:=by have:=hb4.size;simp at this;omega
 have zb3:=HB.out.size
 clear HS HB hb4 hat4 hq4 HIN
 have HS:=HS0
 have HB:=HB0
 clear HS0 HB0
 have k0:=R3.cell 0 Zd
 have k1:=R3.cell 1 Zd
 have k2:=R3.cell 2 Zd
 have k3:=R3.cell 3 Zd
 have k4:=R3.cell 4 Zd
 have k5:=R3.cell 5 Zd
 have k6:=R3.cell 6 Zd
 have kf:=R3.free
 clear R3
 simp only [vec,List.getD_cons_zero,List.getD_cons_succ] at k0 k1 k2 k3 k4 k5 k6
 have r0:=HS.out.ans.row.cell 0 Za
 have r1:=HS.out.ans.row.cell 1 Za
 have r2:=HS.out.ans.row.cell 2 Za
 have r3:=HS.out.ans.row.cell 3 Za
 have r4:=HS.out.ans.row.cell 4 Za
 have r5:=HS.out.ans.row.cell 5 Za
 have r6:=HS.out.ans.row.cell 6 Za
 have rf:=HS.out.ans.row.free
 have rz:=HS.out.ans.row.lt
 simp only [vec,zdd,List.getD_cons_zero,List.getD_cons_succ] at r0 r1 r2 r3 r4 r5 r6
 have zb:=HB.out.size
 go_wp2
 refine ret20 (row7 (HS.out.ans.row.fr (fr5at (z:=w3.1.size) (.int .i64 (allB B x).now) (.int .i64 (allB B x).floor) (.slice g.a1 (allB B x).on m1) (.slice g.a2 (allB B x).hn m2) (.slice g.a3 (allB B x).tn m3)) (fun e=>by have e':w.1.size+1+1=w3.1.size:=e;omega))) rfl rfl ⟨g,m1,m2,m3,rfl,?_,fun q hq=>by have:=HQ4.out q hq;omega,?_⟩
 ·refine (HA4.out.fr (fr5at (z:=w3.1.size) (.int .i64 (allB B x).now) (.int .i64 (allB B x).floor) (.slice g.a1 (allB B x).on m1) (.slice g.a2 (allB B x).hn m2) (.slice g.a3 (allB B x).tn m3)) (fun k hk e=>?_)).fr (fr7 (z:=w.1.size+1+1) (.int .i64 (allC B x)) (.int .i64 (allB B x).now) (.int .i64 (allB B x).floor) (.slice g.a1 (allB B x).on m1) (.slice g.a2 (allB B x).hn m2) (.slice g.a3 (allB B x).tn m3) (.int .i64 (allV B x))) (fun k hk e=>?_)
  ·have e':k=w3.1.size:=e
   have:=HQ4.out k hk
   omega
  ·have e':k=w.1.size+1+1:=e
   have:=HQ4.out k hk
   omega
 ·exact (HB.out.trans ((fr5at (z:=w3.1.size) (.int .i64 (allB B x).now) (.int .i64 (allB B x).floor) (.slice g.a1 (allB B x).on m1) (.slice g.a2 (allB B x).hn m2) (.slice g.a3 (allB B x).tn m3)).below (fun q hq e=>by have e':q=w3.1.size:=e;omega) zb)).trans ((fr7 (.int .i64 (allC B x)) (.int .i64 (allB B x).now) (.int .i64 (allB B x).floor) (.slice g.a1 (allB B x).on m1) (.slice g.a2 (allB B x).hn m2) (.slice g.a3 (allB B x).tn m3) (.int .i64 (allV B x))).below (fun q hq e=>by have e':q=w.1.size+1+1:=e;omega) (by simp only [World.size_setCell];exact zb))
theorem implAll_any (B:Bk) (x:Bu) (p:Pl) (c1 c2 c3:Nat) (u1 u2:Option Addr) (d1 d2:Nat) (w:World) (hf:BkFit B) (hu:BuFit x) (hat:BkAt w B p) (hcap:CapA w B p c1 c2) (hbu:BuIn w 0 w.1.size x u1 u2) (hs:szBk B≤1048576) (hg:w.cell? ⟨0,0,none⟩=some (.iface 233 (.agg #[.pointer (some ⟨5,86,none⟩)]))) (hw0:0<w.1.size) :
  Calls Tryz.prog 20 #[.agg #[.int .i64 B.now,.int .i64 B.floor,.slice p.a1 B.on c1,.slice p.a2 B.hn c2,.slice p.a3 B.tn c3],.agg #[.slice u1 x.wn d1,.slice u2 x.rn d2]] w fun e w'=>AnI (allC B x) (allB B x) (allV B x) (allN B x) w e w':=by
 cases hv:allTo (chk B) 7 with
 | false=>
  have e1:allC B x=1:=by unfold allC;rw [if_neg (by rw [hv];decide)]
  have e2:allB B x=bk0:=by unfold allB;rw [if_neg (by rw [hv];decide)]
  have e3:allV B x=0:=by unfold allV;rw [if_neg (by rw [hv];decide)]
  have e4:allN B x=0:=by unfold allN;rw [if_neg (by rw [hv];decide)]
  rw [e1,e2,e3,e4]
  exact implAll_bad B x p c1 c2 c3 u1 u2 d1 d2 w hf hu hat hcap hbu hv
 | true=>
  cases hn:buB x with
  | false=>
   have e1:allC B x=2:=by unfold allC;rw [if_pos hv,if_neg (by rw [hn];decide)]
   have e2:allB B x=B:=by unfold allB;rw [if_pos hv,if_neg (by rw [hn];decide)]
   have e3:allV B x=0:=by unfold allV;rw [if_pos hv,if_neg (by rw [hn];decide)]
   have e4:allN B x=0:=by unfold allN;rw [if_pos hv,if_neg (by rw [hn];decide)]
   rw [e1,e2,e3,e4]
   exact implAll_miss B x p c1 c2 c3 u1 u2 d1 d2 w hf hu hat hcap hbu hv hn
  | true=>exact implAll_go B x p c1 c2 c3 u1 u2 d1 d2 w hf hu hat hcap hbu (all_fit hf hu hs) hv hn hg hw0
theorem regionU {P:Program} {id:Nat} {ops:Array Oper} {Q:Exit→Act→World→Prop} {a0:Act} {W:World} (hm:P.follows .mixedOrders=true) (n m:Nat) (keep:Nat→Bool)
  (mk:(Nat→Value)→Array Value) (t0:Nat→Value) (G:Nat→Value→World→Prop) (_B0 B1:Nat→Value→World→Prop)
  (hn:ops.size=n) (hmn:m+1<n) (hord:((List.range ops.size).all fun i=>match ops[i]? with|some o=>o.after.all (fun e=>!(Region.binds .any e)||decide (e.on<i))|none=>true)=true)
  (hbox:Waits ops (m+1) m)
  (st:∀ i v X Y,i<n→G i v X→Below X.1.size X Y→G i v Y)
  (stS:∀ i v X Y z,i<n→keep i=true→G i v X→Bx X z→FrP (fun q=>q=z) X Y→G i v Y)
  (st1:∀ z v X Y,B1 z v X→z<X.1.size→Below X.1.size X Y→B1 z v Y)
  (h0:a0=⟨mk t0,[]⟩)
  (sg:∀ i,i<n→¬i=m→¬i=m+1→∀ (t:Nat→Value) X K,Below W.1.size W X→(∀ j,Waits ops i j→¬j=m→¬j=m+1→(Waits ops (m+1) i∨keep j=true)→G j (t j) X)→(∀ v Y,G i v Y→Below X.1.size X Y→K ⟨mk (updT t i v),[]⟩ Y)→wpOp P ops Q i K ⟨mk t,[]⟩ X)
  (sa:∀ (t:Nat→Value) X K,(∀ Y,Bx Y X.1.size→Below X.1.size X Y→X.1.size<Y.1.size→K ⟨mk (updT t m (.pointer (some ⟨X.1.size,0,none⟩))),[]⟩ Y)→wpOp P ops Q m K ⟨mk t,[]⟩ X)
  (sw:Nat) (hsw:Waits ops (m+1) sw) (hsm:¬sw=m) (hsn:¬sw=m+1)
  (ss:∀ (t:Nat→Value) X K z,t m=.pointer (some ⟨z,0,none⟩)→Bx X z→z<X.1.size→G sw (t sw) X→(∀ v Y,B1 z (t sw) Y→FrP (fun q=>q=z) X Y→K ⟨mk (updT t (m+1) v),[]⟩ Y)→wpOp P ops Q (m+1) K ⟨mk t,[]⟩ X)
  (hfin:∀ t X z,Below W.1.size W X→(∀ i,i<n→¬i=m→¬i=m+1→keep i=true→G i (t i) X)→t m=.pointer (some ⟨z,0,none⟩)→W.1.size≤z→z<X.1.size→B1 z (t sw) X→Q .normal ⟨mk t,[]⟩ X):(Code.region id ops true).wp P Q a0 W:=by
 have hlt:∀ i j,Waits ops i j→i<n→j<i:=fun i j hj hi=>by
  obtain ⟨o,ho,e,he,hbd,rfl⟩:=hj
  have h1:=List.all_eq_true.1 hord i (by rw [hn];simpa using hi)
  simp only [ho] at h1
  have h2:=(Array.all_eq_true_iff_forall_mem.1 h1) e he
  rw [hbd] at h2
  simpa using h2
 refine regionIC hm n mk t0 (fun f t X=>Below W.1.size W X∧(∀ i,i<n→¬i=m→¬i=m+1→f i=true→(f (m+1)=false∨keep i=true)→G i (t i) X)∧(f m=true→∃ z,t m=.pointer (some ⟨z,0,none⟩)∧W.1.size≤z∧z<X.1.size∧(f (m+1)=false→Bx X z)∧(f (m+1)=true→B1 z (t sw) X))∧(f (m+1)=true→f m=true∧f sw=true)) hn hord h0 ?_ ?_ ?_
 ·intro f hf
  exact ⟨(Below.refl _ _).drew,fun i _ _ _ h=>by (rw [hf] at h;cases h),fun h=>by (rw [hf] at h;cases h),fun h=>by (rw [hf] at h;cases h)⟩
 ·rintro i hi f t X K ⟨hA,hG,hZ,hM⟩ hfi hwi hcl hK
  by_cases e1:i=m
  ·subst e1
   have hf1:f (i+1)=false:=by
    cases hx:f (i+1) with
    | false=>rfl
    | true=>rw [(hM hx).1] at hfi;cases hfi
   refine sa t X K (fun Y hB hbY hlY=>hK _ Y (fun g hgi hgj=>⟨hA.trans (hbY.mono hA.size),fun j hj h1 h2 hg _=>?_,fun _=>⟨X.1.size,by rw [updT_same],hA.size,hlY,fun _=>hB,fun h=>?_⟩,fun h=>?_⟩))
   ·rw [updT_ne h1]
    rw [hgj j h1] at hg
    exact st j _ X Y hj (hG j hj h1 h2 hg (Or.inl hf1)) hbY
   ·rw [hgj _ Za,hf1] at h
    cases h
   ·rw [hgj _ Za,hf1] at h
    cases h
  ·by_cases e2:i=m+1
   ·subst e2
    obtain ⟨z,ez,hz,hzX,hb0,_⟩:=hZ (hwi m hbox)
    refine ss t X K z ez (hb0 hfi) hzX (hG sw (by have:=hlt _ sw hsw hi;omega) hsm hsn (hwi sw hsw) (Or.inl hfi)) (fun v Y hB hfY=>hK v Y (fun g hgi hgj=>⟨hA.trans (hfY.below (fun q hq e=>by have e':q=z:=e;omega) hA.size),fun j hj h1 h2 hg hkp=>?_,fun _=>⟨z,by rw [updT_ne Za];exact ez,hz,Nat.lt_of_lt_of_le hzX hfY.size,fun h=>by (rw [hgi] at h;cases h),fun _=>by rw [updT_ne hsn];exact hB⟩,fun _=>⟨by rw [hgj m Za];exact hwi m hbox,by rw [hgj sw hsn];exact hwi sw hsw⟩⟩))
    rw [updT_ne h2]
    rw [hgj j h2] at hg
    have hkj:keep j=true:=hkp.resolve_left (fun h=>by rw [hgi] at h;cases h)
    exact stS j _ X Y z hj hkj (hG j hj h1 h2 hg (Or.inl hfi)) (hb0 hfi) hfY
   ·have hdep:∀ j,Waits ops i j→¬j=m→¬j=m+1→(Waits ops (m+1) i∨keep j=true)→G j (t j) X:=fun j hj h1 h2 h3=>by
     refine hG j (by have:=hlt i j hj hi;omega) h1 h2 (hwi j hj) ?_
     rcases h3 with h|h
     ·left
      cases hx:f (m+1) with
      | false=>rfl
      | true=>rw [hcl (m+1) i h hx] at hfi;cases hfi
     ·exact Or.inr h
    refine sg i hi e1 e2 t X K hA hdep (fun v Y hv hbY=>hK v Y (fun g hgi hgj=>⟨hA.trans (hbY.mono hA.size),fun j hj h1 h2 hg hkp=>?_,fun hgm=>?_,fun h=>?_⟩))
    ·by_cases e:j=i
     ·subst e
      rw [updT_same]
      exact hv
     ·rw [updT_ne e]
      rw [hgj j e] at hg
      rw [hgj _ (fun e=>e2 e.symm)] at hkp
      exact st j _ X Y hj (hG j hj h1 h2 hg hkp) hbY
    ·rw [hgj m (fun e=>e1 e.symm)] at hgm
     obtain ⟨z,ez,hz,hzX,hb0,hb1⟩:=hZ hgm
     refine ⟨z,by rw [updT_ne (fun e=>e1 e.symm)];exact ez,hz,Nat.lt_of_lt_of_le hzX hbY.size,fun h=>?_,fun h=>?_⟩
     ·rw [hgj _ (fun e=>e2 e.symm)] at h
      exact (hb0 h).grow hbY
     ·rw [hgj _ (fun e=>e2 e.symm)] at h
      have hsi:¬sw=i:=fun e=>by
       have:=(hM h).2
       rw [e,hfi] at this
       cases this
      rw [updT_ne hsi]
      exact st1 z _ X Y (hb1 h) hzX hbY
    ·rw [hgj _ (fun e=>e2 e.symm)] at h
     obtain ⟨q1,q2⟩:=hM h
     refine ⟨by rw [hgj m (fun e=>e1 e.symm)];exact q1,?_⟩
     by_cases e:sw=i
     ·rw [e];exact hgi
     ·rw [hgj sw e];exact q2
 ·rintro f t X hf ⟨hA,hG,hZ,_⟩
  obtain ⟨z,ez,hz,hzX,_,hb1⟩:=hZ (hf m Za)
  exact hfin t X z hA (fun i hi h1 h2 hk=>hG i hi h1 h2 (hf i hi) (Or.inr hk)) ez hz hzX (hb1 (hf _ Za))
theorem toBk_cap {w:World} {lo hi:Nat} {x:Bk} {g1 g2 g3 d1 d2:Nat} (h:BkOwn w lo hi x g1 g2 g3) (hc:x.on≤d1∧x.hn≤d2):∃ p:Pl,p.a1=some ⟨g1,0,none⟩∧p.a2=some ⟨g2,0,none⟩∧p.a3=some ⟨g3,0,none⟩∧BkAt w x p∧CapA w x p d1 d2∧∀ q,blkB p x q→lo≤q∧q<hi:=by
 obtain ⟨p,h1,h2,h3,h4,h5,h6⟩:=h.atC
 obtain ⟨⟨q1,r1,o1,_⟩,⟨q2,r2,o2,_⟩,_,_,_,_⟩:=h
 refine ⟨p,h1,h2,h3,h4,⟨⟨hc.1,Or.inr ⟨g1,0,h1,o1.room.lt⟩⟩,⟨hc.2,Or.inr ⟨g2,0,h2,o2.room.lt⟩⟩,h5,fun b off q=>?_,fun b e j=>?_⟩,h6⟩
 ·rcases q with q|q
  ·rw [h1] at q
   cases q
   exact ⟨rfl,o1.room.lt⟩
  ·rw [h2] at q
   cases q
   exact ⟨rfl,o2.room.lt⟩
 ·rw [h1] at e
  cases e
  exact o1.room.free j
def alReg8G (x:Bk) (u:Bu) (a1 a2 a3:Option Addr) (c1 c2 c3:Nat) (ua ub:Option Addr) (d1 d2:Nat) (_W:World) (i:Nat) (v:Value) (X:World):Prop:=
 match i with
 | 0=>v=.agg #[.int .i64 x.now,.int .i64 x.floor,.slice a1 x.on c1,.slice a2 x.hn c2,.slice a3 x.tn c3]
 | 1=>∃ (p:Pl) (m1 m2 m3:Nat),v=.agg #[.int .i64 x.now,.int .i64 x.floor,.slice p.a1 x.on m1,.slice p.a2 x.hn m2,.slice p.a3 x.tn m3]∧BkAt X x p∧CapA X x p m1 m2
 | 2=>v=.agg #[.slice ua u.wn d1,.slice ub u.rn d2]
 | 3=>∃ (h1 h2:Nat),v=.agg #[.slice (some ⟨h1,0,none⟩) u.wn u.wn,.slice (some ⟨h2,0,none⟩) u.rn u.rn]∧BuIn X 0 X.1.size u (some ⟨h1,0,none⟩) (some ⟨h2,0,none⟩)
 | 4=>∃ (b1 b2 b3:Option Addr) (e1 e2 e3:Nat),v=.tuple #[.agg #[.int .i64 (allC x u),.int .i64 (allB x u).now,.int .i64 (allB x u).floor,.slice b1 (allB x u).on e1,.slice b2 (allB x u).hn e2,.slice b3 (allB x u).tn e3,.int .i64 (allV x u)],.int .i64 (allN x u:Nat)]∧BkIn X 0 X.1.size (allB x u) b1 b2 b3
 | 5=>∃ (b1 b2 b3:Option Addr) (e1 e2 e3:Nat),v=.tuple #[.agg #[.int .i64 (allC x u),.int .i64 (allB x u).now,.int .i64 (allB x u).floor,.slice b1 (allB x u).on e1,.slice b2 (allB x u).hn e2,.slice b3 (allB x u).tn e3,.int .i64 (allV x u)],.int .i64 (allN x u:Nat)]∧BkIn X 0 X.1.size (allB x u) b1 b2 b3
 | 6=>∃ (b1 b2 b3:Option Addr) (e1 e2 e3:Nat),v=.agg #[.int .i64 (allC x u),.int .i64 (allB x u).now,.int .i64 (allB x u).floor,.slice b1 (allB x u).on e1,.slice b2 (allB x u).hn e2,.slice b3 (allB x u).tn e3,.int .i64 (allV x u)]∧BkIn X 0 X.1.size (allB x u) b1 b2 b3
 | 7=>v=.int .i64 (allN x u:Nat)
 | 10=>v=.int .i64 (allN x u:Nat)
 | _=>True
theorem apP500 {P:Prop} (h:P:=by
  have e0:t 0=.agg #[.int .i64 x.now,.int .i64 x.floor,.slice a1 x.on c1,.slice a2 x.hn c2,.slice a3 x.tn c3]:=hg 0 (Wt rfl) Zb Zb (Or.inl ⟨_,rfl,⟨1,.phase⟩,Zd,rfl,rfl⟩)
  refine wpOp_of rfl rfl ?_
  have HK:=hid hK
  clear hK hg
  go_simp
  go_at_call 9
  refine (toBk_any x a1 a2 a3 c1 c2 c3 X 0 s0 Za hf (hin.below hb Za)).mono ?_
  rintro r Z ⟨g1,g2,g3,m1,m2,m3,rfl,hcd,ho,hbZ⟩
  obtain ⟨p,hp1,hp2,hp3,hp4,hp5,_⟩:=toBk_cap ho hcd
  have h:=HK.out _ Z ⟨p,m1,m2,m3,rfl,hp4,hp5⟩ hbZ
  rw [hp1,hp2,hp3] at h
  simpa [updT,e0] using h):P:=h
theorem apP501 {P:Prop} (h:P:=by
  have e2:t 2=.agg #[.slice ua u.wn d1,.slice ub u.rn d2]:=hg 2 (Wt rfl) Zb Zb (Or.inl ⟨_,rfl,⟨3,.phase⟩,Zd,rfl,rfl⟩)
  refine wpOp_of rfl rfl ?_
  have HK:=hid hK
  clear hK hg
  go_simp
  go_at_call 19
  refine (toBu_any u ua ub d1 d2 X 0 s0 Za hu (hun.below hb Za)).mono ?_
  rintro r Z ⟨h1,h2,rfl,hA,_,_,_,_,hbZ⟩
  have h:=HK.out _ Z ⟨h1,h2,rfl,hA.isIn (fun _ _=>Nat.zero_le _)⟩ hbZ
  simpa [updT,e2] using h):P:=h
theorem apP503 {P:Prop} (h:P:=by
  refine wpOp_of rfl rfl ?_
  clear hK hg
  go_simp
  simpa [updT,ea] using h):P:=h
theorem apP505 {P:Prop} (h:P:=by
  obtain ⟨b1,b2,b3,e1,e2,e3,e,h1⟩:=h
  exact ⟨b1,b2,b3,e1,e2,e3,e,(h1.box hfY hx.no Zbt).upTo hfY.size⟩):P:=h
theorem apP506 {P:Prop} (h:P:=by
  have q0:=hbu.below hb Za 0 Zd
  have q1:=hbu.below hb Za 1 Zd
  simp only [vec,List.getD_cons_zero,List.getD_cons_succ] at q0 q1
  exact sg):P:=h
theorem apP507 {P:Prop} (h:P:=by
  obtain ⟨b1,b2,b3,e1,e2,e3,e,h1⟩:=h
  exact ⟨b1,b2,b3,e1,e2,e3,e,h1.grow hb⟩):P:=h
theorem alReg8 (p0 p1 p4 p5 p8 p9 p10 p11 p12 p13 p14 p15 p16 p17 p18 p19 p20 p21 p22 p23 p24 p25 p26 p35 p36 p37 p38 p39 p40 p41 p42 p43 p44 p45 p46 p47 p48 p49 p50 p51 p52 p53 p54 p55 p56 p57 p58 p59 p60 p61 p62 p63 p64 p65 p66 p67 p68 p69 p70 p71 p72 p73 p74 p75 p76 p77 p78 p79 p80 p81 p82 p83 p84 p85 p86 p87 p88 p89 p90 p91 p92 p93 p94 p95 p96 p97 p98 p99 p100 p101 p102 p103 p104 p105 p106 p107 p108 p109 p110 p111 p112 p113 p114 p115 p116 p117 p118 o0 o1 o2 o3 o4 o5 o6 o7 o8 o9 o10:Value) (s0:Nat) (x:Bk) (u:Bu) (a1 a2 a3:Option Addr) (c1 c2 c3:Nat) (ua ub:Option Addr) (d1 d2:Nat) (W:World) (hs:s0+1<W.1.size) (hbx:Holds W s0 (bkCells x a1 a2 a3 c1 c2 c3)) (hbu:HoldN W (s0+1) [.slice ua u.wn d1,.slice ub u.rn d2]) (hin:BkIn W 0 s0 x a1 a2 a3) (hun:BuIn W 0 s0 u ua ub) (hf:BkFit x) (hu:BuFit u) (hsz:szBk x≤1048576) (Q:Exit→Act→World→Prop)
  (hQ:∀ (t:Nat→Value) (z:Nat) (b1 b2 b3:Option Addr) (e1 e2 e3:Nat) X,Below W.1.size W X∧W.1.size≤z∧z<X.1.size∧HoldN X z [.int .i64 (allC x u),.int .i64 (allB x u).now,.int .i64 (allB x u).floor,.slice b1 (allB x u).on e1,.slice b2 (allB x u).hn e2,.slice b3 (allB x u).tn e3,.int .i64 (allV x u)]∧BkIn X 0 X.1.size (allB x u) b1 b2 b3→Q .normal ⟨#[p0,p1,.pointer (some ⟨s0,0,none⟩),.pointer (some ⟨s0+1,0,none⟩),p4,p5,.pointer (some ⟨z,0,none⟩),.int .i64 (allN x u:Nat),p8,p9,p10,p11,p12,p13,p14,p15,p16,p17,p18,p19,p20,p21,p22,p23,p24,p25,p26,t 5,t 0,t 1,t 2,t 3,t 4,t 6,t 7,p35,p36,p37,p38,p39,p40,p41,p42,p43,p44,p45,p46,p47,p48,p49,p50,p51,p52,p53,p54,p55,p56,p57,p58,p59,p60,p61,p62,p63,p64,p65,p66,p67,p68,p69,p70,p71,p72,p73,p74,p75,p76,p77,p78,p79,p80,p81,p82,p83,p84,p85,p86,p87,p88,p89,p90,p91,p92,p93,p94,p95,p96,p97,p98,p99,p100,p101,p102,p103,p104,p105,p106,p107,p108,p109,p110,p111,p112,p113,p114,p115,p116,p117,p118],[]⟩ X) :
  Code.wp Tryz.prog (Code.region 8 #[⟨some 28,.load 26 (.tmp 2),26, "exact.go:3794",#[],none⟩,⟨some 29,.call ⟨.value (.func 9),#[.tmp 28],#[26]⟩,35, "exact.go:3794",#[⟨0,.data⟩],none⟩,⟨some 30,.load 50 (.tmp 3),50, "exact.go:3794",#[],none⟩,⟨some 31,.call ⟨.value (.func 19),#[.tmp 30],#[50]⟩,57, "exact.go:3794",#[⟨2,.data⟩,⟨1,.chain⟩],none⟩,⟨some 32,.call ⟨.value (.func 18),#[.tmp 29,.tmp 31],#[35,57]⟩,52, "exact.go:3794",#[⟨1,.data⟩,⟨3,.data⟩,⟨3,.chain⟩],none⟩,⟨some 27,.move (.tmp 32),52, "exact.go:3794",#[⟨4,.data⟩],none⟩,⟨some 33,.extract (.tmp 27) 0,37, "exact.go:3794",#[⟨5,.data⟩],none⟩,⟨some 34,.extract (.tmp 27) 1,3, "exact.go:3794",#[⟨5,.data⟩,{ on:=9,ground:=Ground.gcOnly Departure.lateStores }],none⟩,⟨some 6,.alloc 37,0, "exact.go:3794",#[],none⟩,⟨none,.store 37 (.tmp 6) (.tmp 33),0, "exact.go:3794",#[⟨8,.data⟩,⟨6,.data⟩,⟨4,.chain⟩,⟨0,.phase⟩,⟨1,.phase⟩,⟨2,.phase⟩,⟨3,.phase⟩,⟨4,.phase⟩,⟨5,.phase⟩,⟨6,.phase⟩,{ on:=7,ground:=Ground.textOnly Departure.lateStores },⟨8,.phase⟩],none⟩,⟨some 7,.assign (.tmp 34),3, "exact.go:3794",#[⟨7,.data⟩,⟨9,.chain⟩,⟨0,.phase⟩,⟨1,.phase⟩,⟨2,.phase⟩,⟨3,.phase⟩,⟨4,.phase⟩,⟨5,.phase⟩,⟨6,.phase⟩,⟨7,.phase⟩,⟨8,.phase⟩,⟨9,.phase⟩],none⟩] true) Q ⟨#[p0,p1,.pointer (some ⟨s0,0,none⟩),.pointer (some ⟨s0+1,0,none⟩),p4,p5,o8,o10,p8,p9,p10,p11,p12,p13,p14,p15,p16,p17,p18,p19,p20,p21,p22,p23,p24,p25,p26,o5,o0,o1,o2,o3,o4,o6,o7,p35,p36,p37,p38,p39,p40,p41,p42,p43,p44,p45,p46,p47,p48,p49,p50,p51,p52,p53,p54,p55,p56,p57,p58,p59,p60,p61,p62,p63,p64,p65,p66,p67,p68,p69,p70,p71,p72,p73,p74,p75,p76,p77,p78,p79,p80,p81,p82,p83,p84,p85,p86,p87,p88,p89,p90,p91,p92,p93,p94,p95,p96,p97,p98,p99,p100,p101,p102,p103,p104,p105,p106,p107,p108,p109,p110,p111,p112,p113,p114,p115,p116,p117,p118],[]⟩ W:=by
 refine regionU Zf 11 8 (fun i=>decide (4≤i)) (fun t:Nat→Value=>#[p0,p1,.pointer (some ⟨s0,0,none⟩),.pointer (some ⟨s0+1,0,none⟩),p4,p5,t 8,t 10,p8,p9,p10,p11,p12,p13,p14,p15,p16,p17,p18,p19,p20,p21,p22,p23,p24,p25,p26,t 5,t 0,t 1,t 2,t 3,t 4,t 6,t 7,p35,p36,p37,p38,p39,p40,p41,p42,p43,p44,p45,p46,p47,p48,p49,p50,p51,p52,p53,p54,p55,p56,p57,p58,p59,p60,p61,p62,p63,p64,p65,p66,p67,p68,p69,p70,p71,p72,p73,p74,p75,p76,p77,p78,p79,p80,p81,p82,p83,p84,p85,p86,p87,p88,p89,p90,p91,p92,p93,p94,p95,p96,p97,p98,p99,p100,p101,p102,p103,p104,p105,p106,p107,p108,p109,p110,p111,p112,p113,p114,p115,p116,p117,p118]) (fun i=>[o0,o1,o2,o3,o4,o5,o6,o7,o8,o9,o10].getD i undef) (alReg8G x u a1 a2 a3 c1 c2 c3 ua ub d1 d2 W) (fun _ _ _=>True) (fun z v X=>∃ l:List Value,v=.agg l.toArray∧HoldN X z l) Zf Zb Zf (Wt rfl) ?st ?stS ?st1 rfl ?sg ?sa 6 (Wt rfl) Zb Zb ?ss ?fin
 case st=>
  intro i v X Y' hi h hb
  rcases (show i=0∨i=1∨i=2∨i=3∨i=4∨i=5∨i=6∨i=7∨i=8∨i=9∨i=10 by omega) with rfl|rfl|rfl|rfl|rfl|rfl|rfl|rfl|rfl|rfl|rfl
  ·exact h
  ·obtain ⟨p,m1,m2,m3,e,h1,h2⟩:=h
   exact ⟨p,m1,m2,m3,e,h1.grow hb,h2.grow hb⟩
  ·exact h
  ·obtain ⟨h1,h2,e,h3⟩:=h
   exact ⟨h1,h2,e,h3.grow hb⟩
  ·exact apP507
  ·exact apP507
  ·exact apP507
  ·exact h
  ·trivial
  ·trivial
  ·exact h
 case stS=>
  intro i v X Y' z hi hk h hx hfY
  have hk4:4≤i:=of_decide_eq_true hk
  rcases (show i=4∨i=5∨i=6∨i=7∨i=8∨i=9∨i=10 by omega) with rfl|rfl|rfl|rfl|rfl|rfl|rfl
  ·exact apP505
  ·exact apP505
  ·exact apP505
  ·exact h
  ·trivial
  ·trivial
  ·exact h
 case st1=>
  rintro z v X Y' ⟨l,e,h⟩ hz hb
  exact ⟨l,e,h.below hb hz⟩
 case sg=>
  intro i hi i1 i2 t X K hb hg hK
  have zX:=hb.size
  rcases (show i=0∨i=1∨i=2∨i=3∨i=4∨i=5∨i=6∨i=7∨i=10 by omega) with rfl|rfl|rfl|rfl|rfl|rfl|rfl|rfl|rfl
  ·obtain ⟨q0,q1,q2,q3,q4⟩:=holds_bk (hbx.below hb Za)
   exact sg
  ·exact apP500
  ·exact apP506
  ·exact apP501
  ·obtain ⟨p,m1,m2,m3,eb,hP,hCP⟩:=hg 1 (Wt rfl) Zb Zb (Or.inl ⟨_,rfl,⟨4,.phase⟩,Zd,rfl,rfl⟩)
   obtain ⟨h1,h2,eu,hU2⟩:=hg 3 (Wt rfl) Zb Zb (Or.inl ⟨_,rfl,⟨4,.phase⟩,Zd,rfl,rfl⟩)
   have HP:=hid hP
   have HCP:=hid hCP
   have HU2:=hid hU2
   clear hP hCP hU2
   refine wpOp_of rfl rfl ?_
   have HK:=hid hK
   clear hK hg
   go_simp
   go_at_call 18
   refine (specAll_any x u p.a1 p.a2 p.a3 m1 m2 m3 _ _ u.wn u.rn X hf hu hsz (HP.out.isIn (fun _ _=>Nat.zero_le _)) HU2.out).mono ?_
   rintro r Z ⟨hbZ,b1,b2,b3,e1,e2,e3,rfl,hZ⟩
   have h:=HK.out _ Z ⟨b1,b2,b3,e1,e2,e3,rfl,hZ⟩ hbZ
   simpa [updT,eb,eu] using h
  ·obtain ⟨b1,b2,b3,e1,e2,e3,ea,ha1⟩:=hg 4 (Wt rfl) Zb Zb (Or.inl ⟨_,rfl,⟨5,.phase⟩,Zd,rfl,rfl⟩)
   have h:=hK _ X ⟨b1,b2,b3,e1,e2,e3,rfl,ha1⟩ Zbv
   exact apP503
  ·obtain ⟨b1,b2,b3,e1,e2,e3,ea,ha1⟩:=hg 5 (Wt rfl) Zb Zb (Or.inl ⟨_,rfl,⟨6,.phase⟩,Zd,rfl,rfl⟩)
   have h:=hK _ X ⟨b1,b2,b3,e1,e2,e3,rfl,ha1⟩ Zbv
   exact apP503
  ·obtain ⟨b1,b2,b3,e1,e2,e3,ea,ha1⟩:=hg 5 (Wt rfl) Zb Zb (Or.inr rfl)
   have h:=hK _ X rfl Zbv
   exact apP503
  ·have ea:t 7=.int .i64 (allN x u:Nat):=hg 7 (Wt rfl) Zb Zb (Or.inr rfl)
   exact sg
 case sa=>
  intro t X K hK
  have h:=hK _ (bx_new X) Zbu Zd
  refine wpOp_of rfl rfl ?_
  clear hK
  go_simp
  simpa [updT] using h
 case ss=>
  intro t X K z ez hx hzX hg hK
  obtain ⟨b1,b2,b3,e1,e2,e3,ea,ha1⟩:=hg
  have fz:=hx.row.free
  have r0:=hx.row.cell 0 Za
  have r1:=hx.row.cell 1 Za
  have r2:=hx.row.cell 2 Za
  have r3:=hx.row.cell 3 Za
  have r4:=hx.row.cell 4 Za
  have r5:=hx.row.cell 5 Za
  have r6:=hx.row.cell 6 Za
  simp only [vec,zdd,List.getD_cons_zero,List.getD_cons_succ] at r0 r1 r2 r3 r4 r5 r6
  have R7:=row7 (v0:=.int .i64 (allC x u)) (v1:=.int .i64 (allB x u).now) (v2:=.int .i64 (allB x u).floor) (v3:=.slice b1 (allB x u).on e1) (v4:=.slice b2 (allB x u).hn e2) (v5:=.slice b3 (allB x u).tn e3) (v6:=.int .i64 (allV x u)) hx.row
  have h:=hK (.tuple #[]) _ ⟨[.int .i64 (allC x u),.int .i64 (allB x u).now,.int .i64 (allB x u).floor,.slice b1 (allB x u).on e1,.slice b2 (allB x u).hn e2,.slice b3 (allB x u).tn e3,.int .i64 (allV x u)],ea,fun j hj=>R7.cell j hj⟩ (fr7 _ _ _ _ _ _ _)
  refine wpOp_of rfl rfl ?_
  have H:=hid h
  clear hK h R7
  go_simp
  simpa [updT,ez,ea] using H.out
 case fin=>
  intro t X z hb hg ez hz hzX hB
  obtain ⟨b1,b2,b3,e1,e2,e3,ea,ha1⟩:=hg 6 Za Zb Zb rfl
  obtain ⟨l,eb,hH⟩:=hB
  rw [ea] at eb
  have e10:t 10=.int .i64 (allN x u:Nat):=hg 10 Za Zb Zb rfl
  have hH2:HoldN X z [.int .i64 (allC x u),.int .i64 (allB x u).now,.int .i64 (allB x u).floor,.slice b1 (allB x u).on e1,.slice b2 (allB x u).hn e2,.slice b3 (allB x u).tn e3,.int .i64 (allV x u)]:=by
   injection eb with eb
   have q:=congrArg Array.toList eb
   have q':[.int .i64 (allC x u),.int .i64 (allB x u).now,.int .i64 (allB x u).floor,.slice b1 (allB x u).on e1,.slice b2 (allB x u).hn e2,.slice b3 (allB x u).tn e3,.int .i64 (allV x u)]=l:=by simpa using q
   rw [q']
   exact hH
  have h:=hQ t z b1 b2 b3 e1 e2 e3 X ⟨hb,hz,hzX,hH2,ha1⟩
  rw [←ez,←e10] at h
  exact h
def alReg31G (x:Bk) (u:Bu) (a1 a2 a3:Option Addr) (c1 c2 c3:Nat) (ua ub:Option Addr) (d1 d2:Nat) (W:World) (i:Nat) (v:Value) (X:World):Prop:=
 match i with
 | 0=>v=.agg #[.int .i64 x.now,.int .i64 x.floor,.slice a1 x.on c1,.slice a2 x.hn c2,.slice a3 x.tn c3]
 | 1=>∃ (p:Pl) (m1 m2 m3:Nat),v=.agg #[.int .i64 x.now,.int .i64 x.floor,.slice p.a1 x.on m1,.slice p.a2 x.hn m2,.slice p.a3 x.tn m3]∧BkAt X x p∧CapA X x p m1 m2
 | 2=>v=.agg #[.slice ua u.wn d1,.slice ub u.rn d2]
 | 3=>∃ (h1 h2:Nat),v=.agg #[.slice (some ⟨h1,0,none⟩) u.wn u.wn,.slice (some ⟨h2,0,none⟩) u.rn u.rn]∧BuIn X 0 X.1.size u (some ⟨h1,0,none⟩) (some ⟨h2,0,none⟩)
 | 4=>∃ (g:Pl) (e1 e2 e3:Nat),v=.tuple #[.agg #[.int .i64 (allC x u),.int .i64 (allB x u).now,.int .i64 (allB x u).floor,.slice g.a1 (allB x u).on e1,.slice g.a2 (allB x u).hn e2,.slice g.a3 (allB x u).tn e3,.int .i64 (allV x u)],.int .i64 (allN x u:Nat)]∧BkAt X (allB x u) g∧∀ q,blkB g (allB x u) q→W.1.size≤q∧q<X.1.size
 | 5=>∃ (g:Pl) (e1 e2 e3:Nat),v=.tuple #[.agg #[.int .i64 (allC x u),.int .i64 (allB x u).now,.int .i64 (allB x u).floor,.slice g.a1 (allB x u).on e1,.slice g.a2 (allB x u).hn e2,.slice g.a3 (allB x u).tn e3,.int .i64 (allV x u)],.int .i64 (allN x u:Nat)]∧BkAt X (allB x u) g∧∀ q,blkB g (allB x u) q→W.1.size≤q∧q<X.1.size
 | 6=>∃ (g:Pl) (e1 e2 e3:Nat),v=.agg #[.int .i64 (allC x u),.int .i64 (allB x u).now,.int .i64 (allB x u).floor,.slice g.a1 (allB x u).on e1,.slice g.a2 (allB x u).hn e2,.slice g.a3 (allB x u).tn e3,.int .i64 (allV x u)]∧BkAt X (allB x u) g∧∀ q,blkB g (allB x u) q→W.1.size≤q∧q<X.1.size
 | 7=>v=.int .i64 (allN x u:Nat)
 | 10=>v=.int .i64 (allN x u:Nat)
 | _=>True
theorem apP502 {P:Prop} (h:P:=by
  obtain ⟨g,e1,e2,e3,e,h1,h2⟩:=h
  exact ⟨g,e1,e2,e3,e,h1.fr hfY (fun k hk e=>by obtain ⟨j,s,hs⟩:=h1.str hk;exact ne_box hx.no hs e),fun q hq=>⟨(h2 q hq).1,Nat.lt_of_lt_of_le (h2 q hq).2 hfY.size⟩⟩):P:=h
theorem apP504 {P:Prop} (h:P:=by
  obtain ⟨g,e1,e2,e3,e,h1,h2⟩:=h
  exact ⟨g,e1,e2,e3,e,h1.grow hb,fun q hq=>⟨(h2 q hq).1,Nat.lt_of_lt_of_le (h2 q hq).2 hb.size⟩⟩):P:=h
theorem alReg31 (p0 p1 p4 p5 p6 p7 p8 p9 p10 p11 p12 p13 p14 p17 p18 p19 p20 p21 p22 p23 p24 p25 p26 p27 p28 p29 p30 p31 p32 p33 p34 p35 p36 p37 p38 p39 p40 p41 p42 p43 p44 p45 p46 p47 p48 p49 p50 p51 p52 p53 p54 p55 p56 p57 p58 p59 p60 p61 p62 p63 p64 p65 p66 p67 p68 p69 p70 p71 p72 p73 p74 p75 p76 p77 p78 p79 p80 p81 p82 p83 p84 p85 p86 p87 p88 p89 p90 p91 p92 p93 p102 p103 p104 p105 p106 p107 p108 p109 p110 p111 p112 p113 p114 p115 p116 p117 p118 o0 o1 o2 o3 o4 o5 o6 o7 o8 o9 o10:Value) (s0:Nat) (x:Bk) (u:Bu) (a1 a2 a3:Option Addr) (c1 c2 c3:Nat) (ua ub:Option Addr) (d1 d2:Nat) (W:World) (hs:s0+1<W.1.size) (hbx:Holds W s0 (bkCells x a1 a2 a3 c1 c2 c3)) (hbu:HoldN W (s0+1) [.slice ua u.wn d1,.slice ub u.rn d2]) (hin:BkIn W 0 s0 x a1 a2 a3) (hun:BuIn W 0 s0 u ua ub) (hf:BkFit x) (hu:BuFit u) (hsz:szBk x≤1048576) (hg0:W.cell? ⟨0,0,none⟩=some (.iface 233 (.agg #[.pointer (some ⟨5,86,none⟩)]))) (Q:Exit→Act→World→Prop)
  (hQ:∀ (t:Nat→Value) (z:Nat) (g:Pl) (e1 e2 e3:Nat) X,Below W.1.size W X∧W.1.size≤z∧z<X.1.size∧HoldN X z [.int .i64 (allC x u),.int .i64 (allB x u).now,.int .i64 (allB x u).floor,.slice g.a1 (allB x u).on e1,.slice g.a2 (allB x u).hn e2,.slice g.a3 (allB x u).tn e3,.int .i64 (allV x u)]∧BkAt X (allB x u) g∧(∀ q,blkB g (allB x u) q→W.1.size≤q∧q<X.1.size)→Q .normal ⟨#[p0,p1,.pointer (some ⟨s0,0,none⟩),.pointer (some ⟨s0+1,0,none⟩),p4,p5,p6,p7,p8,p9,p10,p11,p12,p13,p14,.pointer (some ⟨z,0,none⟩),.int .i64 (allN x u:Nat),p17,p18,p19,p20,p21,p22,p23,p24,p25,p26,p27,p28,p29,p30,p31,p32,p33,p34,p35,p36,p37,p38,p39,p40,p41,p42,p43,p44,p45,p46,p47,p48,p49,p50,p51,p52,p53,p54,p55,p56,p57,p58,p59,p60,p61,p62,p63,p64,p65,p66,p67,p68,p69,p70,p71,p72,p73,p74,p75,p76,p77,p78,p79,p80,p81,p82,p83,p84,p85,p86,p87,p88,p89,p90,p91,p92,p93,t 5,t 0,t 1,t 2,t 3,t 4,t 6,t 7,p102,p103,p104,p105,p106,p107,p108,p109,p110,p111,p112,p113,p114,p115,p116,p117,p118],[]⟩ X) :
  Code.wp Tryz.prog (Code.region 31 #[⟨some 95,.load 26 (.tmp 2),26, "exact.go:3823",#[],none⟩,⟨some 96,.call ⟨.value (.func 9),#[.tmp 95],#[26]⟩,35, "exact.go:3823",#[⟨0,.data⟩],none⟩,⟨some 97,.load 50 (.tmp 3),50, "exact.go:3823",#[],none⟩,⟨some 98,.call ⟨.value (.func 19),#[.tmp 97],#[50]⟩,57, "exact.go:3823",#[⟨2,.data⟩,⟨1,.chain⟩],none⟩,⟨some 99,.call ⟨.value (.func 20),#[.tmp 96,.tmp 98],#[35,57]⟩,52, "exact.go:3823",#[⟨1,.data⟩,⟨3,.data⟩,⟨3,.chain⟩],none⟩,⟨some 94,.move (.tmp 99),52, "exact.go:3823",#[⟨4,.data⟩],none⟩,⟨some 100,.extract (.tmp 94) 0,37, "exact.go:3823",#[⟨5,.data⟩],none⟩,⟨some 101,.extract (.tmp 94) 1,3, "exact.go:3823",#[⟨5,.data⟩,{ on:=9,ground:=Ground.gcOnly Departure.lateStores }],none⟩,⟨some 15,.alloc 37,0, "exact.go:3823",#[],none⟩,⟨none,.store 37 (.tmp 15) (.tmp 100),0, "exact.go:3823",#[⟨8,.data⟩,⟨6,.data⟩,⟨4,.chain⟩,⟨0,.phase⟩,⟨1,.phase⟩,⟨2,.phase⟩,⟨3,.phase⟩,⟨4,.phase⟩,⟨5,.phase⟩,⟨6,.phase⟩,{ on:=7,ground:=Ground.textOnly Departure.lateStores },⟨8,.phase⟩],none⟩,⟨some 16,.assign (.tmp 101),3, "exact.go:3823",#[⟨7,.data⟩,⟨9,.chain⟩,⟨0,.phase⟩,⟨1,.phase⟩,⟨2,.phase⟩,⟨3,.phase⟩,⟨4,.phase⟩,⟨5,.phase⟩,⟨6,.phase⟩,⟨7,.phase⟩,⟨8,.phase⟩,⟨9,.phase⟩],none⟩] true) Q ⟨#[p0,p1,.pointer (some ⟨s0,0,none⟩),.pointer (some ⟨s0+1,0,none⟩),p4,p5,p6,p7,p8,p9,p10,p11,p12,p13,p14,o8,o10,p17,p18,p19,p20,p21,p22,p23,p24,p25,p26,p27,p28,p29,p30,p31,p32,p33,p34,p35,p36,p37,p38,p39,p40,p41,p42,p43,p44,p45,p46,p47,p48,p49,p50,p51,p52,p53,p54,p55,p56,p57,p58,p59,p60,p61,p62,p63,p64,p65,p66,p67,p68,p69,p70,p71,p72,p73,p74,p75,p76,p77,p78,p79,p80,p81,p82,p83,p84,p85,p86,p87,p88,p89,p90,p91,p92,p93,o5,o0,o1,o2,o3,o4,o6,o7,p102,p103,p104,p105,p106,p107,p108,p109,p110,p111,p112,p113,p114,p115,p116,p117,p118],[]⟩ W:=by
 refine regionU Zf 11 8 (fun i=>decide (4≤i)) (fun t:Nat→Value=>#[p0,p1,.pointer (some ⟨s0,0,none⟩),.pointer (some ⟨s0+1,0,none⟩),p4,p5,p6,p7,p8,p9,p10,p11,p12,p13,p14,t 8,t 10,p17,p18,p19,p20,p21,p22,p23,p24,p25,p26,p27,p28,p29,p30,p31,p32,p33,p34,p35,p36,p37,p38,p39,p40,p41,p42,p43,p44,p45,p46,p47,p48,p49,p50,p51,p52,p53,p54,p55,p56,p57,p58,p59,p60,p61,p62,p63,p64,p65,p66,p67,p68,p69,p70,p71,p72,p73,p74,p75,p76,p77,p78,p79,p80,p81,p82,p83,p84,p85,p86,p87,p88,p89,p90,p91,p92,p93,t 5,t 0,t 1,t 2,t 3,t 4,t 6,t 7,p102,p103,p104,p105,p106,p107,p108,p109,p110,p111,p112,p113,p114,p115,p116,p117,p118]) (fun i=>[o0,o1,o2,o3,o4,o5,o6,o7,o8,o9,o10].getD i undef) (alReg31G x u a1 a2 a3 c1 c2 c3 ua ub d1 d2 W) (fun _ _ _=>True) (fun z v X=>∃ l:List Value,v=.agg l.toArray∧HoldN X z l) Zf Zb Zf (Wt rfl) ?st ?stS ?st1 rfl ?sg ?sa 6 (Wt rfl) Zb Zb ?ss ?fin
 case st=>
  intro i v X Y' hi h hb
  rcases (show i=0∨i=1∨i=2∨i=3∨i=4∨i=5∨i=6∨i=7∨i=8∨i=9∨i=10 by omega) with rfl|rfl|rfl|rfl|rfl|rfl|rfl|rfl|rfl|rfl|rfl
  ·exact h
  ·obtain ⟨p,m1,m2,m3,e,h1,h2⟩:=h
   exact ⟨p,m1,m2,m3,e,h1.grow hb,h2.grow hb⟩
  ·exact h
  ·obtain ⟨h1,h2,e,h3⟩:=h
   exact ⟨h1,h2,e,h3.grow hb⟩
  ·exact apP504
  ·exact apP504
  ·exact apP504
  ·exact h
  ·trivial
  ·trivial
  ·exact h
 case stS=>
  intro i v X Y' z hi hk h hx hfY
  have hk4:4≤i:=of_decide_eq_true hk
  rcases (show i=4∨i=5∨i=6∨i=7∨i=8∨i=9∨i=10 by omega) with rfl|rfl|rfl|rfl|rfl|rfl|rfl
  ·exact apP502
  ·exact apP502
  ·exact apP502
  ·exact h
  ·trivial
  ·trivial
  ·exact h
 case st1=>
  rintro z v X Y' ⟨l,e,h⟩ hz hb
  exact ⟨l,e,h.below hb hz⟩
 case sg=>
  intro i hi i1 i2 t X K hb hg hK
  have zX:=hb.size
  rcases (show i=0∨i=1∨i=2∨i=3∨i=4∨i=5∨i=6∨i=7∨i=10 by omega) with rfl|rfl|rfl|rfl|rfl|rfl|rfl|rfl|rfl
  ·obtain ⟨q0,q1,q2,q3,q4⟩:=holds_bk (hbx.below hb Za)
   exact sg
  ·exact apP500
  ·exact apP506
  ·exact apP501
  ·obtain ⟨p,m1,m2,m3,eb,hP,hCP⟩:=hg 1 (Wt rfl) Zb Zb (Or.inl ⟨_,rfl,⟨4,.phase⟩,Zd,rfl,rfl⟩)
   obtain ⟨h1,h2,eu,hU2⟩:=hg 3 (Wt rfl) Zb Zb (Or.inl ⟨_,rfl,⟨4,.phase⟩,Zd,rfl,rfl⟩)
   have HP:=hid hP
   have HCP:=hid hCP
   have HU2:=hid hU2
   clear hP hCP hU2
   refine wpOp_of rfl rfl ?_
   have HK:=hid hK
   clear hK hg
   go_simp
   go_at_call 20
   refine (implAll_any x u p m1 m2 m3 _ _ u.wn u.rn X hf hu HP.out HCP.out HU2.out hsz ((hb.cell (p:=⟨0,0,none⟩) (by show 0<W.1.size;omega)).trans hg0) Za).mono ?_
   rintro r Z ⟨g,e1,e2,e3,rfl,hZ,hq,hbZ⟩
   have h:=HK.out _ Z ⟨g,e1,e2,e3,rfl,hZ,fun q hq'=>⟨Nat.le_trans zX (hq q hq'),hZ.blt hq'⟩⟩ hbZ
   simpa [updT,eb,eu] using h
  ·obtain ⟨g,e1,e2,e3,ea,ha1,ha2⟩:=hg 4 (Wt rfl) Zb Zb (Or.inl ⟨_,rfl,⟨5,.phase⟩,Zd,rfl,rfl⟩)
   have h:=hK _ X ⟨g,e1,e2,e3,rfl,ha1,ha2⟩ Zbv
   exact apP503
  ·obtain ⟨g,e1,e2,e3,ea,ha1,ha2⟩:=hg 5 (Wt rfl) Zb Zb (Or.inl ⟨_,rfl,⟨6,.phase⟩,Zd,rfl,rfl⟩)
   have h:=hK _ X ⟨g,e1,e2,e3,rfl,ha1,ha2⟩ Zbv
   exact apP503
  ·obtain ⟨g,e1,e2,e3,ea,ha1,ha2⟩:=hg 5 (Wt rfl) Zb Zb (Or.inr rfl)
   have h:=hK _ X rfl Zbv
   exact apP503
  ·have ea:t 7=.int .i64 (allN x u:Nat):=hg 7 (Wt rfl) Zb Zb (Or.inr rfl)
   exact sg
 case sa=>
  intro t X K hK
  have h:=hK _ (bx_new X) Zbu Zd
  refine wpOp_of rfl rfl ?_
  clear hK
  go_simp
  simpa [updT] using h
 case ss=>
  intro t X K z ez hx hzX hg hK
  obtain ⟨g,e1,e2,e3,ea,ha1,ha2⟩:=hg
  have fz:=hx.row.free
  have r0:=hx.row.cell 0 Za
  have r1:=hx.row.cell 1 Za
  have r2:=hx.row.cell 2 Za
  have r3:=hx.row.cell 3 Za
  have r4:=hx.row.cell 4 Za
  have r5:=hx.row.cell 5 Za
  have r6:=hx.row.cell 6 Za
  simp only [vec,zdd,List.getD_cons_zero,List.getD_cons_succ] at r0 r1 r2 r3 r4 r5 r6
  have R7:=row7 (v0:=.int .i64 (allC x u)) (v1:=.int .i64 (allB x u).now) (v2:=.int .i64 (allB x u).floor) (v3:=.slice g.a1 (allB x u).on e1) (v4:=.slice g.a2 (allB x u).hn e2) (v5:=.slice g.a3 (allB x u).tn e3) (v6:=.int .i64 (allV x u)) hx.row
  have h:=hK (.tuple #[]) _ ⟨[.int .i64 (allC x u),.int .i64 (allB x u).now,.int .i64 (allB x u).floor,.slice g.a1 (allB x u).on e1,.slice g.a2 (allB x u).hn e2,.slice g.a3 (allB x u).tn e3,.int .i64 (allV x u)],ea,fun j hj=>R7.cell j hj⟩ (fr7 _ _ _ _ _ _ _)
  refine wpOp_of rfl rfl ?_
  have H:=hid h
  clear hK h R7
  go_simp
  simpa [updT,ez,ea] using H.out
 case fin=>
  intro t X z hb hg ez hz hzX hB
  obtain ⟨g,e1,e2,e3,ea,ha1,ha2⟩:=hg 6 Za Zb Zb rfl
  obtain ⟨l,eb,hH⟩:=hB
  rw [ea] at eb
  have e10:t 10=.int .i64 (allN x u:Nat):=hg 10 Za Zb Zb rfl
  have hH2:HoldN X z [.int .i64 (allC x u),.int .i64 (allB x u).now,.int .i64 (allB x u).floor,.slice g.a1 (allB x u).on e1,.slice g.a2 (allB x u).hn e2,.slice g.a3 (allB x u).tn e3,.int .i64 (allV x u)]:=by
   injection eb with eb
   have q:=congrArg Array.toList eb
   have q':[.int .i64 (allC x u),.int .i64 (allB x u).now,.int .i64 (allB x u).floor,.slice g.a1 (allB x u).on e1,.slice g.a2 (allB x u).hn e2,.slice g.a3 (allB x u).tn e3,.int .i64 (allV x u)]=l:=by simpa using q
   rw [q']
   exact hH
  have h:=hQ t z g e1 e2 e3 X ⟨hb,hz,hzX,hH2,ha1,ha2⟩
  rw [←ez,←e10] at h
  exact h
structure DM (W:World) (s0:Nat) (x:Bk) (u:Bu) (a1 a2 a3:Option Addr) (c1 c2 c3:Nat) (ua ub:Option Addr) (d1 d2:Nat) (co:Int) (y:Bk) (ve:Int) (n1 zw:Nat) (b1 b2 b3:Option Addr) (e1 e2 e3:Nat) (zx:Nat) (p:Pl) (m1 m2 m3:Nat) (xm:Bk) (zu h1 h2:Nat) (um:Bu) (zg:Nat) (g:Pl) (f1 f2 f3:Nat) (ym:Bk):Prop where
 bx:Holds W s0 (bkCells x a1 a2 a3 c1 c2 c3)
 bu:HoldN W (s0+1) [.slice ua u.wn d1,.slice ub u.rn d2]
 arg:BkIn W 0 s0 x a1 a2 a3
 uarg:BuIn W 0 s0 u ua ub
 vw:HoldN W zw (ddCells co y ve b1 b2 b3 e1 e2 e3)
 ww:BkIn W 0 n1 y b1 b2 b3
 vx:HoldN W zx [.int .i64 x.now,.int .i64 x.floor,.slice p.a1 x.on m1,.slice p.a2 x.hn m2,.slice p.a3 x.tn m3]
 xx:BkAt W xm p
 xb:∀ q,blkB p xm q→n1≤q∧q<zx
 vu:HoldN W zu [.slice (some ⟨h1,0,none⟩) u.wn u.wn,.slice (some ⟨h2,0,none⟩) u.rn u.rn]
 uu:BuAt W um (some ⟨h1,0,none⟩) (some ⟨h2,0,none⟩) h1 h2
 ubk:∀ q,blkU um h1 h2 q→zx<q∧q<zu
 vg:HoldN W zg (ddCells co y ve g.a1 g.a2 g.a3 f1 f2 f3)
 gg:BkAt W ym g
 gb:∀ q,blkB g ym q→zu<q∧q<zg
 o0:s0+1<n1
 o1:zw<n1
 o2:n1≤zx
 o3:zx<zu
 o4:zu<zg
 o5:zg<W.1.size
section
variable {W W':World} {s0:Nat} {x:Bk} {u:Bu} {a1 a2 a3:Option Addr} {c1 c2 c3:Nat} {ua ub:Option Addr} {d1 d2:Nat} {co:Int} {y:Bk} {ve:Int} {n1 zw:Nat} {b1 b2 b3:Option Addr} {e1 e2 e3:Nat} {zx:Nat} {p:Pl} {m1 m2 m3:Nat} {xm:Bk} {zu h1 h2:Nat} {um:Bu} {zg:Nat} {g:Pl} {f1 f2 f3:Nat} {ym:Bk}
theorem DM.below (h:DM W s0 x u a1 a2 a3 c1 c2 c3 ua ub d1 d2 co y ve n1 zw b1 b2 b3 e1 e2 e3 zx p m1 m2 m3 xm zu h1 h2 um zg g f1 f2 f3 ym) (hb:Below W.1.size W W'):DM W' s0 x u a1 a2 a3 c1 c2 c3 ua ub d1 d2 co y ve n1 zw b1 b2 b3 e1 e2 e3 zx p m1 m2 m3 xm zu h1 h2 um zg g f1 f2 f3 ym:=by
 have o0:=h.o0
 have o1:=h.o1
 have o2:=h.o2
 have o3:=h.o3
 have o4:=h.o4
 have o5:=h.o5
 exact ⟨h.bx.below hb Za,h.bu.below hb Za,h.arg.below hb Za,h.uarg.below hb Za,h.vw.below hb Za,h.ww.below hb Za,h.vx.below hb Za,h.xx.grow hb,h.xb,h.vu.below hb Za,h.uu.grow hb,h.ubk,h.vg.below hb Za,h.gg.grow hb,h.gb,o0,o1,o2,o3,o4,Nat.lt_of_lt_of_le o5 hb.size⟩
theorem DM.markX (h:DM W s0 x u a1 a2 a3 c1 c2 c3 ua ub d1 d2 co y ve n1 zw b1 b2 b3 e1 e2 e3 zx p m1 m2 m3 xm zu h1 h2 um zg g f1 f2 f3 ym) (k0:Nat) (hx:BkAt W' (ykBk k0 xm) p) (hf:FrP (blkB p xm) W W'):DM W' s0 x u a1 a2 a3 c1 c2 c3 ua ub d1 d2 co y ve n1 zw b1 b2 b3 e1 e2 e3 zx p m1 m2 m3 (ykBk k0 xm) zu h1 h2 um zg g f1 f2 f3 ym:=by
 have o0:=h.o0
 have o1:=h.o1
 have o2:=h.o2
 have o3:=h.o3
 have o4:=h.o4
 have o5:=h.o5
 have hB:Below n1 W W':=hf.below (B:=n1) (fun q hq e=>by have:=h.xb _ e;omega) Za
 exact ⟨h.bx.below hB Za,h.bu.below hB Za,h.arg.below hB Za,h.uarg.below hB Za,h.vw.below hB Za,h.ww.below hB Zbt,h.vx.frP hf Za (fun e=>by have:=h.xb _ e;omega),hx,by rw [blkB_yk];exact h.xb,h.vu.frP hf Za (fun e=>by have:=h.xb _ e;omega),h.uu.fr hf (fun q hq e=>by have a:=h.ubk q hq;have b:=h.xb _ e;omega),h.ubk,h.vg.frP hf Za (fun e=>by have:=h.xb _ e;omega),h.gg.fr hf (fun q hq e=>by have a:=h.gb q hq;have b:=h.xb _ e;omega),h.gb,o0,o1,o2,o3,o4,Nat.lt_of_lt_of_le o5 hf.size⟩
theorem DM.markU (h:DM W s0 x u a1 a2 a3 c1 c2 c3 ua ub d1 d2 co y ve n1 zw b1 b2 b3 e1 e2 e3 zx p m1 m2 m3 xm zu h1 h2 um zg g f1 f2 f3 ym) (k0:Nat) (hx:BuAt W' (ykBu k0 um) (some ⟨h1,0,none⟩) (some ⟨h2,0,none⟩) h1 h2) (hf:FrP (blkU um h1 h2) W W'):DM W' s0 x u a1 a2 a3 c1 c2 c3 ua ub d1 d2 co y ve n1 zw b1 b2 b3 e1 e2 e3 zx p m1 m2 m3 xm zu h1 h2 (ykBu k0 um) zg g f1 f2 f3 ym:=by
 have o0:=h.o0
 have o1:=h.o1
 have o2:=h.o2
 have o3:=h.o3
 have o4:=h.o4
 have o5:=h.o5
 have hB:Below zx W W':=hf.below (B:=zx) (fun q hq e=>by have:=h.ubk _ e;omega) Za
 exact ⟨h.bx.below hB Za,h.bu.below hB Za,h.arg.below hB Za,h.uarg.below hB Za,h.vw.below hB Za,h.ww.below hB Za,h.vx.frP hf Za (fun e=>by have:=h.ubk _ e;omega),h.xx.fr hf (fun q hq e=>by have a:=h.xb q hq;have b:=h.ubk _ e;omega),h.xb,h.vu.frP hf Za (fun e=>by have:=h.ubk _ e;omega),hx,by rw [blkU_yk];exact h.ubk,h.vg.frP hf Za (fun e=>by have:=h.ubk _ e;omega),h.gg.fr hf (fun q hq e=>by have a:=h.gb q hq;have b:=h.ubk _ e;omega),h.gb,o0,o1,o2,o3,o4,Nat.lt_of_lt_of_le o5 hf.size⟩
theorem DM.markG (h:DM W s0 x u a1 a2 a3 c1 c2 c3 ua ub d1 d2 co y ve n1 zw b1 b2 b3 e1 e2 e3 zx p m1 m2 m3 xm zu h1 h2 um zg g f1 f2 f3 ym) (k0:Nat) (hg:BkAt W' (ykBk k0 ym) g) (hf:FrP (blkB g ym) W W'):DM W' s0 x u a1 a2 a3 c1 c2 c3 ua ub d1 d2 co y ve n1 zw b1 b2 b3 e1 e2 e3 zx p m1 m2 m3 xm zu h1 h2 um zg g f1 f2 f3 (ykBk k0 ym):=by
 have o0:=h.o0
 have o1:=h.o1
 have o2:=h.o2
 have o3:=h.o3
 have o4:=h.o4
 have o5:=h.o5
 have hB:Below zu W W':=hf.below (B:=zu) (fun q hq e=>by have:=h.gb _ e;omega) Za
 exact ⟨h.bx.below hB Za,h.bu.below hB Za,h.arg.below hB Za,h.uarg.below hB Za,h.vw.below hB Za,h.ww.below hB Za,h.vx.below hB Za,h.xx.fr hf (fun q hq e=>by have a:=h.xb q hq;have b:=h.gb _ e;omega),h.xb,h.vu.frP hf Za (fun e=>by have:=h.gb _ e;omega),h.uu.fr hf (fun q hq e=>by have a:=h.ubk q hq;have b:=h.gb _ e;omega),h.ubk,h.vg.frP hf Za (fun e=>by have:=h.gb _ e;omega),hg,by rw [blkB_yk];exact h.gb,o0,o1,o2,o3,o4,Nat.lt_of_lt_of_le o5 hf.size⟩
theorem DM.lowX (h:DM W s0 x u a1 a2 a3 c1 c2 c3 ua ub d1 d2 co y ve n1 zw b1 b2 b3 e1 e2 e3 zx p m1 m2 m3 xm zu h1 h2 um zg g f1 f2 f3 ym) (hf:FrP (blkB p xm) W W'):Below s0 W W':=by
 have o0:=h.o0
 have o1:=h.o1
 have o2:=h.o2
 have o3:=h.o3
 have o4:=h.o4
 have o5:=h.o5
 exact hf.below (B:=s0) (fun k hk e=>by have:=h.xb _ e;omega) Za
theorem DM.lowU (h:DM W s0 x u a1 a2 a3 c1 c2 c3 ua ub d1 d2 co y ve n1 zw b1 b2 b3 e1 e2 e3 zx p m1 m2 m3 xm zu h1 h2 um zg g f1 f2 f3 ym) (hf:FrP (blkU um h1 h2) W W'):Below s0 W W':=by
 have o0:=h.o0
 have o1:=h.o1
 have o2:=h.o2
 have o3:=h.o3
 have o4:=h.o4
 have o5:=h.o5
 exact hf.below (B:=s0) (fun k hk e=>by have:=h.ubk _ e;omega) Za
theorem DM.lowG (h:DM W s0 x u a1 a2 a3 c1 c2 c3 ua ub d1 d2 co y ve n1 zw b1 b2 b3 e1 e2 e3 zx p m1 m2 m3 xm zu h1 h2 um zg g f1 f2 f3 ym) (hf:FrP (blkB g ym) W W'):Below s0 W W':=by
 have o0:=h.o0
 have o1:=h.o1
 have o2:=h.o2
 have o3:=h.o3
 have o4:=h.o4
 have o5:=h.o5
 exact hf.below (B:=s0) (fun k hk e=>by have:=h.gb _ e;omega) Za
theorem DM.win (h:DM W s0 x u a1 a2 a3 c1 c2 c3 ua ub d1 d2 co y ve n1 zw b1 b2 b3 e1 e2 e3 zx p m1 m2 m3 xm zu h1 h2 um zg g f1 f2 f3 ym):BkIn W 0 W.1.size y b1 b2 b3:=by
 have o0:=h.o0
 have o1:=h.o1
 have o2:=h.o2
 have o3:=h.o3
 have o4:=h.o4
 have o5:=h.o5
 exact h.ww.upTo Za
end
theorem all_law (x:Bk) (u:Bu) (a1 a2 a3:Option Addr) (c1 c2 c3:Nat) (ua ub:Option Addr) (d1 d2:Nat) (w:World) (hf0:BkFit0 x) (hu0:BuFit0 u) (hc:BkIn w 0 w.1.size x a1 a2 a3) (hcu:BuIn w 0 w.1.size u ua ub) (hg:w.cell? ⟨0,0,none⟩=some (.iface 233 (.agg #[.pointer (some ⟨5,86,none⟩)]))) (hw0:0<w.1.size) :
  Calls Tryz.prog 4 #[.agg #[.int .i64 x.now,.int .i64 x.floor,.slice a1 x.on c1,.slice a2 x.hn c2,.slice a3 x.tn c3],.agg #[.slice ua u.wn d1,.slice ub u.rn d2]] w fun e w'=>e=.returned (.bool true)∧Below w.1.size w w':=by
 have HG:=hid hg
 clear hg
 go_enter Tryz.func4,Tryz.ntmps4
 go_wp2_with fail
 refine (szBk_any x a1 a2 a3 c1 c2 c3 1048576 _ Za Za 0 w.1.size Zc hf0 (hc.below ((below_alloc _ _).alloc Zd _) Zbt)).mono ?_
 rintro e w1 ⟨rfl,hb1⟩
 have hB1:Below w.1.size w w1:=((below_alloc _ _).alloc Zd _).trans (hb1.mono Zc)
 have H1:Holds w1 w.1.size (bkCells x a1 a2 a3 c1 c2 c3):=((holds_new w _ 26).below Zbu Zd).below hb1 Zc
 have J1:HoldN w1 (w.1.size+1) [.slice ua u.wn d1,.slice ub u.rn d2]:=by
  have r:=RowF.new (w:=w.alloc (.cells (bkCells x a1 a2 a3 c1 c2 c3) 26)) (l:=[.slice ua u.wn d1,.slice ub u.rn d2]) (t:=50) hb1
  rw [World.size_alloc] at r
  exact fun j hj=>r.cell j hj
 have hz1:w.1.size+1<w1.1.size:=by have:=hb1.size;simp at this;omega
 clear hb1
 by_cases hsz:szOut 1048576 (szBk x)<0
 ·clear H1 J1
  go_wp2
  go_ret
  exact ⟨rfl,hB1⟩
 have hs0:szBk x≤1048576:=by
  have:=(szOut_ge (l:=1048576) (s:=szBk x) Za).1
  omega
 have hf:BkFit x:=by
  have hs1:=hs0
  unfold szBk szObs szChs szTis at hs1
  exact ⟨Za,Za,Za,hf0.os,hf0.hs,hf0.ts⟩
 have hq0:szOut 1048576 (szBk x)≤1048576:=by
  rw [(szOut_ge (l:=1048576) (s:=szBk x) Za).2]
  omega
 clear hf0
 have t0:=J1 0 Zd
 have t1:=J1 1 Zd
 simp only [vec,List.getD_cons_zero,List.getD_cons_succ] at t0 t1
 go_wp2_with fail
 refine (szBu_any u ua ub d1 d2 _ w1 Za hq0 0 w.1.size hB1.size hu0 (hcu.below hB1 Zbt)).mono ?_
 rintro e w2 ⟨rfl,hb2⟩
 have hB2:Below w.1.size w w2:=hB1.trans (hb2.mono hB1.size)
 have H2:=H1.below hb2 Za
 have J2:=J1.below hb2 Za
 have hz2:w.1.size+1<w2.1.size:=by have:=hb2.size;omega
 have hl3:0≤szOut (szOut 1048576 (szBk x)) (szBu u)→szBu u≤1048576:=fun h=>by
  have:=(szOut_ge h).1
  omega
 obtain ⟨l2,hl2⟩:∃ l,szOut (szOut 1048576 (szBk x)) (szBu u)=l:=⟨_,rfl⟩
 rw [hl2] at hl3 ⊢
 clear hb2 H1 J1 hB1 t0 t1 hl2 hz1 hq0 hsz
 by_cases hsz:l2<0
 ·clear H2 J2
  go_wp2
  go_ret
  exact ⟨rfl,hB2⟩
 have hus:=hl3 Za
 have hu:BuFit u:=by
  unfold szBu szWts szWrs at hus
  exact ⟨Za,Za,hu0.ws,hu0.rs⟩
 have huw:=hu.w
 have hur:=hu.r
 obtain ⟨lx1,lx2,lx3⟩:=lim_of_sz hs0
 have hmx:(mkBk 1 x:Int)≤1073741824:=by have:=mkBk_le 1 x;omega
 have hmu:(mkBu (mkBk 1 x) u:Int)≤1073741824:=by
  have:=mkBk_le 1 x
  unfold mkBu
  rw [mkWrs_is,mkWts_is]
  omega
 have hmp:1≤(mkBk 1 x:Int):=by
  have h1:=mkObs_pos 1 x.os x.on Zb
  have h2:=mkChs_pos (mkObs 1 x.os x.on) x.hs x.hn h1
  have h3:=mkTis_is (mkChs (mkObs 1 x.os x.on) x.hs x.hn) x.ts x.tn
  unfold mkBk
  omega
 have HD:=hid (all_fit (x:=u) hf hu hs0)
 have HH2:=hid H2
 have HJ2:=hid J2
 have HC:=hid hc
 have HCU:=hid hcu
 clear H2 J2 hc hcu hu0 hl3 hus
 go_wp2
 refine alReg8 _ _ _ _ _ _ _ _ _ _ _ _ _ _ _ _ _ _ _ _ _ _ _ _ _ _ _ _ _ _ _ _ _ _ _ _ _ _ _ _ _ _ _ _ _ _ _ _ _ _ _ _ _ _ _ _ _ _ _ _ _ _ _ _ _ _ _ _ _ _ _ _ _ _ _ _ _ _ _ _ _ _ _ _ _ _ _ _ _ _ _ _ _ _ _ _ _ _ _ _ _ _ _ _ _ _ _ _ _ _ _ _ _ _ _ _ undef _ w.1.size x u a1 a2 a3 c1 c2 c3 ua ub d1 d2 w2 hz2 HH2.out HJ2.out (HC.out.below hB2 Zbt) (HCU.out.below hB2 Zbt) hf hu hs0 _ ?_
 rintro t8 zw b1 b2 b3 e1 e2 e3 w3 ⟨hb3,hzw,hzw',hv3,hw3⟩
 have hB3:Below w.1.size w w3:=hB2.trans (hb3.mono hB2.size)
 have HH3:=hid (HH2.out.below hb3 Za)
 have HJ3:=hid (HJ2.out.below hb3 Za)
 have hz3:w.1.size+1<w3.1.size:=by have:=hb3.size;omega
 have HV3:=hid hv3
 have HW3:=hid hw3
 obtain ⟨y,hy⟩:∃ y,allB x u=y:=⟨_,rfl⟩
 obtain ⟨co,hco⟩:∃ y,allC x u=y:=⟨_,rfl⟩
 obtain ⟨ve,hve⟩:∃ y,allV x u=y:=⟨_,rfl⟩
 obtain ⟨nn,hnn⟩:∃ y,allN x u=y:=⟨_,rfl⟩
 have HY:=hid (And.intro hy (And.intro hco (And.intro hve hnn)))
 rw [hnn]
 clear hb3 hv3 hw3 HH2 HJ2
 obtain ⟨p0,p1,p2,p3,p4⟩:=holds_bk HH3.out
 go_wp2_with fail
 refine (toBk_any x a1 a2 a3 c1 c2 c3 w3 0 w.1.size Za hf (HC.out.below hB3 Zbt)).mono ?_
 rintro e w4 ⟨g1,g2,g3,m1,m2,m3,rfl,hcd,hx4,hb4⟩
 obtain ⟨p,hp1,hp2,hp3,hp4,hp6,hp5⟩:=toBk_cap hx4 hcd
 rw [←hp1,←hp2,←hp3]
 have hB4:Below w.1.size w w4:=hB3.trans (hb4.mono hB3.size)
 have hz4:=hb4.size
 have HH4:=hid (HH3.out.below hb4 Za)
 have HJ4:=hid (HJ3.out.below hb4 Za)
 have HV4:=hid (HV3.out.below hb4 hzw')
 have HW4:=hid (HW3.out.below hb4 Zbt)
 have XX:=hid hp4
 have XC:=hid hp6
 have XB:=hid hp5
 clear p0 p1 p2 p3 p4 hb4 HH3 HJ3 HV3 HW3 hx4 hp1 hp2 hp3 hp4 hp5 hp6 hcd
 have t0:=HJ4.out 0 Zd
 have t1:=HJ4.out 1 Zd
 simp only [vec,List.getD_cons_zero,List.getD_cons_succ] at t0 t1
 have hz4':w.1.size+1<w4.1.size:=Za
 go_wp2_with fail
 refine (toBu_any u ua ub d1 d2 _ 0 w.1.size Zc hu (HCU.out.below (hB4.alloc hB4.size _) Zbt)).mono ?_
 rintro e w5 ⟨h1,h2,rfl,hA5,hl1,hl2,hl3,hl4,hb5⟩
 have hB5:Below w.1.size w w5:=(hB4.alloc hB4.size _).trans (hb5.mono Zc)
 have hz5:w4.1.size<w5.1.size:=by have:=hb5.size;simp at this;omega
 simp only [World.size_alloc] at hl1 hl2
 have HH5:=hid ((HH4.out.below Zbu Za).below hb5 Zc)
 have HJ5:=hid ((HJ4.out.below Zbu Za).below hb5 Zc)
 have HV5:=hid ((HV4.out.below Zbu Za).below hb5 Zc)
 have HW5:=hid ((HW4.out.below Zbu Za).below hb5 Zc)
 have HX5:=hid (show HoldN w5 w4.1.size [.int .i64 x.now,.int .i64 x.floor,.slice p.a1 x.on m1,.slice p.a2 x.hn m2,.slice p.a3 x.tn m3] from fun j hj=>(RowF.new (l:=[.int .i64 x.now,.int .i64 x.floor,.slice p.a1 x.on m1,.slice p.a2 x.hn m2,.slice p.a3 x.tn m3]) hb5).cell j hj)
 have XX5:=hid ((XX.out.grow Zbu).grow hb5)
 have XC5:=hid ((XC.out.grow Zbu).grow hb5)
 have UU:=hid hA5
 have UB:=hid (show ∀ q,blkU u h1 h2 q→w4.1.size<q∧q<w5.1.size from fun q hq=>by rcases hq with ⟨_,rfl⟩|⟨_,rfl⟩<;>omega)
 clear t0 t1 hb5 HH4 HJ4 HV4 HW4 XX XC hA5 hl1 hl2 hl3 hl4
 have p0:=HX5.out 0 Zd
 have p1:=HX5.out 1 Zd
 have p2:=HX5.out 2 Zd
 have p3:=HX5.out 3 Zd
 have p4:=HX5.out 4 Zd
 simp only [vec,List.getD_cons_zero,List.getD_cons_succ] at p0 p1 p2 p3 p4
 go_wp2_with fail
 refine (implAll_any x u p m1 m2 m3 (some ⟨h1,0,none⟩) (some ⟨h2,0,none⟩) u.wn u.rn _ hf hu (XX5.out.grow Zbu) (XC5.out.grow Zbu) ((UU.out.grow Zbu).isIn (fun _ _=>Nat.zero_le _)) hs0 (((hB5.alloc hB5.size _).cell (p:=⟨0,0,none⟩) hw0).trans HG.out) Zd).mono ?_
 rintro e w6 ⟨g,f1,f2,f3,rfl,hg6,hq6,hb6⟩
 have hB6:Below w.1.size w w6:=(hB5.alloc hB5.size _).trans (hb6.mono Zc)
 have hz6:w5.1.size<w6.1.size:=by have:=hb6.size;simp at this;omega
 have HU6:HoldN w6 w5.1.size [.slice (some ⟨h1,0,none⟩) u.wn u.wn,.slice (some ⟨h2,0,none⟩) u.rn u.rn]:=fun j hj=>(RowF.new (l:=[.slice (some ⟨h1,0,none⟩) u.wn u.wn,.slice (some ⟨h2,0,none⟩) u.rn u.rn]) hb6).cell j hj
 have VG:HoldN (w6.alloc (.cells #[.int .i64 (allC x u),.int .i64 (allB x u).now,.int .i64 (allB x u).floor,.slice g.a1 (allB x u).on f1,.slice g.a2 (allB x u).hn f2,.slice g.a3 (allB x u).tn f3,.int .i64 (allV x u)] 37)) w6.1.size (ddCells (allC x u) (allB x u) (allV x u) g.a1 g.a2 g.a3 f1 f2 f3):=fun j hj=>(RowF.new (l:=[.int .i64 (allC x u),.int .i64 (allB x u).now,.int .i64 (allB x u).floor,.slice g.a1 (allB x u).on f1,.slice g.a2 (allB x u).hn f2,.slice g.a3 (allB x u).tn f3,.int .i64 (allV x u)]) (t:=37) Zbv).cell j hj
 have S6:DM (w6.alloc (.cells #[.int .i64 (allC x u),.int .i64 (allB x u).now,.int .i64 (allB x u).floor,.slice g.a1 (allB x u).on f1,.slice g.a2 (allB x u).hn f2,.slice g.a3 (allB x u).tn f3,.int .i64 (allV x u)] 37)) w.1.size x u a1 a2 a3 c1 c2 c3 ua ub d1 d2 (allC x u) (allB x u) (allV x u) w3.1.size zw b1 b2 b3 e1 e2 e3 w4.1.size p m1 m2 m3 x w5.1.size h1 h2 u w6.1.size g f1 f2 f3 (allB x u):=
  ⟨((HH5.out.below Zbu Za).below hb6 Zc).below Zbu Za,((HJ5.out.below Zbu Za).below hb6 Zc).below Zbu Za,HC.out.below (hB6.alloc hB6.size _) Zbt,HCU.out.below (hB6.alloc hB6.size _) Zbt,((HV5.out.below Zbu Za).below hb6 Zc).below Zbu Za,((HW5.out.below Zbu Za).below hb6 Zc).below Zbu Za,((HX5.out.below Zbu Za).below hb6 Zc).below Zbu Za,((XX5.out.grow Zbu).grow hb6).grow Zbu,XB.out,HU6.below Zbu Za,((UU.out.grow Zbu).grow hb6).grow Zbu,UB.out,VG,hg6.grow Zbu,fun q hq=>⟨by have:=hq6 q hq;simp at this;omega,hg6.blt hq⟩,hz3,hzw',hz4,hz5,hz6,Zd⟩
 have hB7:Below w.1.size w (w6.alloc (.cells #[.int .i64 (allC x u),.int .i64 (allB x u).now,.int .i64 (allB x u).floor,.slice g.a1 (allB x u).on f1,.slice g.a2 (allB x u).hn f2,.slice g.a3 (allB x u).tn f3,.int .i64 (allV x u)] 37)):=hB6.alloc hB6.size _
 rw [HY.out.1,HY.out.2.1,HY.out.2.2.1] at S6
 rw [HY.out.1,HY.out.2.1,HY.out.2.2.1] at hB7
 rw [HY.out.1] at HD
 rw [HY.out.1,HY.out.2.1,HY.out.2.2.1,HY.out.2.2.2]
 have HS6:=hid S6
 have HV6:=(HV5.out.below (below_alloc w5 (.cells #[.slice (some ⟨h1,0,none⟩) u.wn u.wn,.slice (some ⟨h2,0,none⟩) u.rn u.rn] 57)) Za).below hb6 Zc
 rw [HY.out.1,HY.out.2.1,HY.out.2.2.1] at HV6
 have hzw6:zw<w6.1.size:=Za
 obtain ⟨r0,r1,r2,r3,r4,r5,r6⟩:=holds_dd HV6
 clear p0 p1 p2 p3 p4 hb6 HH5 HJ5 HV5 HW5 HX5 XX5 XC5 UU UB HU6 VG S6 hg6 hq6 hB6 XB hy hco hve hnn HV6
 go_wp2_with fail
 refine (eqDid_any co ve y _ _ _ _ _ _ f1 f2 f3 e1 e2 e3 _ 0 _ 0 _ Zbt Zbt HD.out.fit (by exact HS6.out.gg.isIn (fun _ _=>Nat.zero_le _)) (by exact HS6.out.win)).mono ?_
 rintro e w8 ⟨rfl,hb8⟩
 have HS8:=hid (HS6.out.below hb8)
 have hB8:Below w.1.size w w8:=hB7.trans (hb8.mono hB7.size)
 clear hb8 HS6 r0 r1 r2 r3 r4 r5 r6 hB7
 obtain ⟨zg,hzg⟩:∃ zg,w6.1.size=zg:=⟨_,rfl⟩
 obtain ⟨zu,hzu⟩:∃ zu,w5.1.size=zu:=⟨_,rfl⟩
 obtain ⟨zx,hzx⟩:∃ zx,w4.1.size=zx:=⟨_,rfl⟩
 obtain ⟨n1,hn1⟩:∃ n1,w3.1.size=n1:=⟨_,rfl⟩
 rw [hzg,hzu,hzx,hn1] at HS8
 rw [hzg,hzu,hzx]
 clear hzg hzu hzx hn1 hz3 hz4 hz4' hz5 hz6 hzw hzw' hzw6 hB2 hB3 hB4 hB5 hz2
 obtain ⟨p0,p1,p2,p3,p4⟩:=holds_bk HS8.out.bx
 have q0:=HS8.out.vx 0 Zd
 have q1:=HS8.out.vx 1 Zd
 have q2:=HS8.out.vx 2 Zd
 have q3:=HS8.out.vx 3 Zd
 have q4:=HS8.out.vx 4 Zd
 simp only [vec,List.getD_cons_zero,List.getD_cons_succ] at q0 q1 q2 q3 q4
 go_wp2
 go_region_with (first
  | (go_at_call 9;go_must (refine (toBk_any x a1 a2 a3 c1 c2 c3 _ 0 w.1.size (by exact hB8.size) hf (by exact HS8.out.arg.below ((Below.refl _ _).drew) Zbt)).mono ?_;rintro e w9 ⟨g1',g2',g3',d1',d2',d3',rfl,_,hx9,hb90⟩;have hb9:Below w8.1.size w8 w9:=((Below.refl _ _).drew).trans hb90;clear hb90;have HS9:=hid (HS8.out.below hb9);have HX9:=hid hx9;have HB9:=hid hb9;have hz9:=hb9.size;have r0:=HS9.out.vx 0 Zd;have r1:=HS9.out.vx 1 Zd;have r2:=HS9.out.vx 2 Zd;have r3:=HS9.out.vx 3 Zd;have r4:=HS9.out.vx 4 Zd;simp only [vec,List.getD_cons_zero,List.getD_cons_succ] at r0 r1 r2 r3 r4;clear hx9 hb9))
  | (go_at_call 13;go_must (refine (eqBk_any x _ _ _ _ _ _ m1 m2 m3 d1' d2' d3' _ 0 w9.1.size w8.1.size w9.1.size (by exact Nat.le_refl _) (by exact Nat.le_refl _) hf (by exact HS9.out.xx.isIn (fun _ _=>Nat.zero_le _)) (by exact HX9.out.isIn)).mono ?_;rintro e w10 ⟨rfl,hb10⟩)))
 all_goals
  have hb910:Below w8.1.size w8 w10:=HB9.out.trans (hb10.mono hz9)
  have HS10:=hid (HS8.out.below hb910)
  have hB10:Below w.1.size w w10:=hB8.trans (hb910.mono hB8.size)
  clear p0 p1 p2 p3 p4 q0 q1 q2 q3 q4 r0 r1 r2 r3 r4 HS8 HX9 HS9 HB9 hb10 hb910 hz9 hB8
  go_wp2
  have s0:=HS10.out.vu 0 Zd
  have s1:=HS10.out.vu 1 Zd
  have t0:=HS10.out.bu 0 Zd
  have t1:=HS10.out.bu 1 Zd
  simp only [vec,List.getD_cons_zero,List.getD_cons_succ] at s0 s1 t0 t1
  go_region_with (first
   | (go_at_call 19;go_must (refine (toBu_any u ua ub d1 d2 _ 0 w.1.size (by exact hB10.size) hu (by exact HS10.out.uarg.below ((Below.refl _ _).drew) Zbt)).mono ?_;rintro e w11 ⟨h1',h2',rfl,hx11,_,_,_,_,hb110⟩;have hb11:Below w10.1.size w10 w11:=((Below.refl _ _).drew).trans hb110;clear hb110;have HS11:=hid (HS10.out.below hb11);have HX11:=hid hx11;have HB11:=hid hb11;have hz11:=hb11.size;have r0:=HS11.out.vu 0 Zd;have r1:=HS11.out.vu 1 Zd;simp only [vec,List.getD_cons_zero,List.getD_cons_succ] at r0 r1;clear hx11 hb11))
   | (go_at_call 21;go_must (refine (eqBu_any u _ _ _ _ u.wn u.rn u.wn u.rn _ 0 w11.1.size 0 w11.1.size (by exact Nat.le_refl _) (by exact Nat.le_refl _) hu (by exact HS11.out.uu.isIn (fun _ _=>Nat.zero_le _)) (by exact HX11.out.isIn (fun _ _=>Nat.zero_le _))).mono ?_;rintro e w12 ⟨rfl,hb12⟩)))
  all_goals
   have hb1112:Below w10.1.size w10 w12:=HB11.out.trans (hb12.mono hz11)
   have HS12:=hid (HS10.out.below hb1112)
   have hB12:Below w.1.size w w12:=hB10.trans (hb1112.mono hB10.size)
   clear s0 s1 t0 t1 r0 r1 HS10 HX11 HS11 HB11 hb12 hb1112 hz11 hB10
   have q0:=HS12.out.vx 0 Zd
   have q1:=HS12.out.vx 1 Zd
   have q2:=HS12.out.vx 2 Zd
   have q3:=HS12.out.vx 3 Zd
   have q4:=HS12.out.vx 4 Zd
   simp only [vec,List.getD_cons_zero,List.getD_cons_succ] at q0 q1 q2 q3 q4
   go_wp2_with fail
   refine (markBk_own x p m1 m2 m3 1 w12 lx1 lx2 lx3 Zb hmx HS12.out.xx).mono ?_
   rintro e w13 ⟨rfl,hx13,hf13⟩
   have HS13:=hid (HS12.out.markX 1 hx13 hf13)
   have hB13:Below w.1.size w w13:=hB12.trans (HS12.out.lowX hf13)
   obtain ⟨k9,hk9⟩:∃ k9,mkBk 1 x=k9:=⟨_,rfl⟩
   rw [hk9]
   rw [hk9] at hmp hmu
   clear q0 q1 q2 q3 q4 HS12 hB12 hx13 hf13
   have s0:=HS13.out.vu 0 Zd
   have s1:=HS13.out.vu 1 Zd
   simp only [vec,List.getD_cons_zero,List.getD_cons_succ] at s0 s1
   go_wp2_with fail
   refine (markBu_own u _ _ h1 h2 u.wn u.rn k9 w13 (by exact Int.le_trans huw Zb) (by exact Int.le_trans hur Zb) hmp hmu HS13.out.uu).mono ?_
   rintro e w14 ⟨rfl,hx14,hf14⟩
   have HS14:=hid (HS13.out.markU k9 hx14 hf14)
   have hB14:Below w.1.size w w14:=hB13.trans (HS13.out.lowU hf14)
   obtain ⟨k8,hk8⟩:∃ k8,mkBu k9 u=k8:=⟨_,rfl⟩
   rw [hk8]
   clear s0 s1 HS13 hB13 hx14 hf14
   obtain ⟨q0,q1,q2,q3,q4,q5,q6⟩:=holds_dd HS14.out.vg
   obtain ⟨r0,r1,r2,r3,r4,r5,r6⟩:=holds_dd HS14.out.vw
   go_wp2_with fail
   refine (eqDid_any co ve y _ _ _ _ _ _ f1 f2 f3 e1 e2 e3 _ 0 _ 0 _ Zbt Zbt HD.out.fit (by exact HS14.out.gg.isIn (fun _ _=>Nat.zero_le _)) (by exact HS14.out.win)).mono ?_
   rintro e w15 ⟨rfl,hb15⟩
   have HS15:=hid (HS14.out.below hb15)
   have hB15:Below w.1.size w w15:=hB14.trans (hb15.mono hB14.size)
   clear HS14 hB14 hb15 q0 q1 q2 q3 q4 q5 q6 r0 r1 r2 r3 r4 r5 r6
   obtain ⟨q0,q1,q2,q3,q4,q5,q6⟩:=holds_dd HS15.out.vg
   go_wp2_with fail
   refine (markDid_own co ve y g f1 f2 f3 1 w15 HD.out.o HD.out.h HD.out.t Zb HD.out.m HS15.out.gg).mono ?_
   rintro e w16 ⟨rfl,hg16,hf16⟩
   have HS16:=hid (HS15.out.markG 1 hg16 hf16)
   have hB16:Below w.1.size w w16:=hB15.trans (HS15.out.lowG hf16)
   obtain ⟨m9,hm9⟩:∃ m9,mkBk 1 y=m9:=⟨_,rfl⟩
   have HM9:=hid hm9
   rw [hm9]
   clear HS15 hB15 hg16 hf16 hm9 q0 q1 q2 q3 q4 q5 q6
   obtain ⟨q0,q1,q2,q3,q4,q5,q6⟩:=holds_dd HS16.out.vg
   go_wp2_with fail
   refine (heldDid_own co ve _ _ y g f1 f2 f3 1 w16 HD.out.o HD.out.h HD.out.t Zb HD.out.m HS16.out.gg).mono ?_
   rw [HM9.out]
   rintro e w17 ⟨rfl,hb17⟩
   have HS17:=hid (HS16.out.below hb17)
   have hB17:Below w.1.size w w17:=hB16.trans (hb17.mono hB16.size)
   clear HS16 hB16 hb17 q0 q1 q2 q3 q4 q5 q6
   go_wp2
   refine alReg31 _ _ _ _ _ _ _ _ _ _ _ _ _ _ _ _ _ _ _ _ _ _ _ _ _ _ _ _ _ _ _ _ _ _ _ _ _ _ _ _ _ _ _ _ _ _ _ _ _ _ _ _ _ _ _ _ _ _ _ _ _ _ _ _ _ _ _ _ _ _ _ _ _ _ _ _ _ _ _ _ _ _ _ _ _ _ _ _ _ _ _ _ _ _ _ _ _ _ _ _ _ _ _ _ _ _ _ _ _ _ _ _ _ _ _ _ undef _ w.1.size x u a1 a2 a3 c1 c2 c3 ua ub d1 d2 w17 (by have:=HS17.out.o0;have:=HS17.out.o2;have:=HS17.out.o3;have:=HS17.out.o5;have:=HS17.out.o4;omega) HS17.out.bx HS17.out.bu HS17.out.arg HS17.out.uarg hf hu hs0 ((hB17.cell (p:=⟨0,0,none⟩) hw0).trans HG.out) _ ?_
   rw [HY.out.1,HY.out.2.1,HY.out.2.2.1,HY.out.2.2.2]
   rintro t31 zh gh t1 t2 t3 w18 ⟨hb18,hzh,hzh',hv18,hh18,hq18⟩
   have HS18:=hid (HS17.out.below hb18)
   have hB18:Below w.1.size w w18:=hB17.trans (hb18.mono hB17.size)
   have HH18:=hid hh18
   obtain ⟨q0,q1,q2,q3,q4,q5,q6⟩:=holds_dd hv18
   clear HS17 hB17 hb18 hh18 hq18 hv18 hzh
   obtain ⟨r0,r1,r2,r3,r4,r5,r6⟩:=holds_dd HS18.out.vw
   go_wp2_with fail
   refine (eqDid_any co ve y _ _ _ _ _ _ t1 t2 t3 e1 e2 e3 _ 0 _ 0 _ Zbt Zbt HD.out.fit (by exact HH18.out.isIn (fun _ _=>Nat.zero_le _)) (by exact HS18.out.win)).mono ?_
   rintro e w19 ⟨rfl,hb19⟩
   have HS19:=hid (HS18.out.below hb19)
   have hB19:Below w.1.size w w19:=hB18.trans (hb19.mono hB18.size)
   clear HS18 hB18 hb19 HH18 r0 r1 r2 r3 r4 r5 r6 q0 q1 q2 q3 q4 q5 q6
   obtain ⟨q0,q1,q2,q3,q4,q5,q6⟩:=holds_dd HS19.out.vg
   go_wp2_with fail
   refine (heldDid_own co ve _ _ y g f1 f2 f3 1 w19 HD.out.o HD.out.h HD.out.t Zb HD.out.m HS19.out.gg).mono ?_
   rw [HM9.out]
   rintro e w20 ⟨rfl,hb20⟩
   have hB20:Below w.1.size w w20:=hB19.trans (hb20.mono hB19.size)
   clear HS19 hB19 hb20 q0 q1 q2 q3 q4 q5 q6
   go_wp2
   go_ret
   exact ⟨rfl,hB20⟩
end Go.Proofs.YtllmmkchokkaaaaGreatDoor
