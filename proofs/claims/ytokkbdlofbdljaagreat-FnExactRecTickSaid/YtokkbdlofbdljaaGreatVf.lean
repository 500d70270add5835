import Derived.Test.YtokkbdlofbdljaaGreatVd
namespace Go.Proofs.YtokkbdlofbdljaaGreat
open Go.RowKit
set_option maxHeartbeats 8000000
def AkKeep (r:Rc) (p:RcP) (r':Rc) (p':RcP) (ix:Int):Prop:=p'.A.sa=p.A.sa∧∀ i,i<r'.an→(r'.as_ i).ix≠ix→∃ j,j<r.an∧(r.as_ j).ix=(r'.as_ i).ix∧(r.as_ j).n=(r'.as_ i).n∧p'.AC i=p.AC j
theorem AkKeep.put {r r1:Rc} {p p1:RcP} {k:Nat} {ix x:Int} {ad':Option Addr} {cap' b':Nat} (h1:p1.A.sa=p.A.sa∧∀ i,i<r1.an→i≠k→∃ j,j<r.an∧(r.as_ j).ix=(r1.as_ i).ix∧(r.as_ j).n=(r1.as_ i).n∧p1.AC i=p.AC j) (h2:(r1.as_ k).ix=ix):AkKeep r p (Zw r1 k x) (Yx p1 k ad' cap' b') ix:=⟨h1.1,fun i hi hne=>by
 have hne':(updF r1.as_ k ⟨(r1.as_ k).ix,Zy (r1.as_ k).n (r1.as_ k).s x,ZJ (r1.as_ k).n (r1.as_ k).s x⟩ i).ix≠ix:=hne
 show ∃ j,j<r.an∧(r.as_ j).ix=(updF r1.as_ k _ i).ix∧(r.as_ j).n=(updF r1.as_ k _ i).n∧updF p1.AC k cap' i=p.AC j
 by_cases e:i=k
 ·subst e
  rw [Zm] at hne'
  exact absurd h2 hne'
 ·rw [Zn _ _ e,Zn _ _ e]
  exact h1.2 i hi e⟩
theorem Ni (r:Rc) (p:RcP) (k:Nat):p.A.sa=p.A.sa∧∀ i,i<r.an→i≠k→∃ j,j<r.an∧(r.as_ j).ix=(r.as_ i).ix∧(r.as_ j).n=(r.as_ i).n∧p.AC i=p.AC j:=⟨rfl,fun i hi _=>⟨i,hi,rfl,rfl,rfl⟩⟩
theorem Ny (r:Rc) (p:RcP) (k:Nat) (ix:Int) (g' cap':Nat) (hk:k≤r.an):(JG p k g' cap').A.sa=p.A.sa∧∀ i,i<(ZC r k ix).an→i≠k→∃ j,j<r.an∧(r.as_ j).ix=((ZC r k ix).as_ i).ix∧(r.as_ j).n=((ZC r k ix).as_ i).n∧(JG p k g' cap').AC i=p.AC j:=⟨rfl,fun i hi hne=>by
 have hi':i<r.an+1:=hi
 show ∃ j,j<r.an∧(r.as_ j).ix=(YF r.as_ k (ak0 ix) i).ix∧(r.as_ j).n=(YF r.as_ k (ak0 ix) i).n∧YF p.AC k 0 i=p.AC j
 rcases Nat.lt_trichotomy i k with h1|h1|h1
 ·rw [YH h1,YH h1];exact ⟨i,by omega,rfl,rfl,rfl⟩
 ·exact absurd h1 hne
 ·rw [YI h1,YI h1];exact ⟨i-1,by omega,rfl,rfl,rfl⟩⟩
theorem AkRm.put {w:World} {r:Rc} {p:RcP} (h:AkRm w r p) {k m cap' b':Nat} {ad':Option Addr} {s:Nat→Int} (o:Nat) (v:Value):AkRm (w.setCell ⟨p.g6,o,none⟩ v) (Fe r k m s) (Yx p k ad' cap' b'):=⟨h.al,h.a0,fun h0=>(h.rm h0).set o v⟩
theorem apVf2 {P:Prop} (h:P:=by
  refine wpQuiet_nil ?_
  rintro w8 ⟨u,hu⟩
  have hw8:Below (wr.alloc (.cells #[.int .i64 (kn+1),.slice (p2.AA j) (r2.as_ j).n (p2.AC j)] 108)).1.size (wr.alloc (.cells #[.int .i64 (kn+1),.slice (p2.AA j) (r2.as_ j).n (p2.AC j)] 108)) w8:=hu▸u.prop
  clear hu u y0 y1 b1 b6 b7 b8 b13 hne q0 q1 q2 q3 q4 q5 q6 q7 q8 q9 q10 q11 q12 q13 q14 q15 q16 q17 qf
  have hb8:Below wr.1.size wr w8:=(Zb wr _).trans (hw8.mono (by simp))
  have F8:=FX.out.trans (FrP.of_below hb8)
  have B8:=BX.out.below hb8 hBl
  have B9:=hid B8
  have F9:=hid F8
  clear F8 B8 hb8 hw8 FX BX
  go_wp2
  go_roundw
  case rel=>exact ⟨j+1,by omega,by go_num,F9.out,by rw [HS1.out];exact B9.out⟩
  case measure=>simp [intOf];omega):P:=h
theorem apVf0 {P:Prop} (h:P:=by
  obtain ⟨eA,hg6,d0,d1⟩:=HROW.out wr FX.out j hjn
  have HSL:=hid (HSLS.out wr FX.out)
  obtain ⟨hk0,hk1⟩:=HKN.out j
  have hdn:=HV3.out.2.2
  have hfn:=HV4.out j hjn
  rw [eA]
  by_cases e1:(r2.as_ j).ix=Xd r2 j+1
  ·by_cases e2:r2.of<2*((r2.as_ j).n:Int)
   ·cases e3:(decide ((Xd r2 j).toNat<r2.dk.n)&&decide ((r2.dk.s (Xd r2 j).toNat).bal=r2.bal)) with
    | true=>
     have HS1:=hid (show Xd r2 (j+1)=(r2.as_ j).ix by show ZM _ _ _=_;unfold ZM;rw [if_pos ⟨e1,e2,by simp only [Bool.and_eq_true,decide_eq_true_eq] at e3;exact ⟨by omega,e3.2⟩⟩])
     have HMO:=hid (Jo (r2.as_ j).n (p2.AA j) (p2.AC j) r2.of true (by omega) (by simp;omega))
     have HHS:=hid (fun u:GW (wr.alloc (.cells #[.int .i64 (r2.as_ j).ix,.slice (p2.AA j) (r2.as_ j).n (p2.AC j)] 108))=>Jz ⟨r2.dk.pr,Xd r2 j,r2.dk.n,r2.dk.s⟩ p2.A.da p2.A.dc (Xd r2 j) r2.bal true hk0 (by omega) e3 u.val 0 wr.1.size (by have:=u.prop.size;simp at this;omega) ((HSL.out.below (Zb wr _) (lrf _)).below u.prop (by simp)))
     obtain ⟨ix,hix⟩:∃ ix,(r2.as_ j).ix=ix:=⟨_,rfl⟩
     obtain ⟨kn,hkn⟩:∃ kn,Xd r2 j=kn:=⟨_,rfl⟩
     have hix2:ix=kn+1:=by rw [←hix,←hkn];exact e1
     rw [hkn] at hk0 hk1 BX HHS
     rw [hix] at d0 HS1 HHS
     subst hix2
     have hjn:r2.an≤61:=HV2.out
     obtain ⟨q0,q1,q2,q3,q4,q5,q6,q7,q8,q9,q10,q11,q12,q13,q14,q15,q16,q17⟩:=Ze BX.out.cell
     have qf:=BX.out.free
     have hBl:=BX.out.lt
     clear hix hkn e3
     have hB1:B<wr.1.size+1:=by omega
     go_wp2
     have y0:=Zc (W1:=(wr.alloc (.cells #[.int .i64 (kn+1),.slice (p2.AA j) (r2.as_ j).n (p2.AC j)] 108))) (p:=⟨wr.1.size,0,none⟩) (v:=.int .i64 (kn+1)) (by simp) (by simp)
     have y1:=Zc (W1:=(wr.alloc (.cells #[.int .i64 (kn+1),.slice (p2.AA j) (r2.as_ j).n (p2.AC j)] 108))) (p:=⟨wr.1.size,1,none⟩) (v:=.slice (p2.AA j) (r2.as_ j).n (p2.AC j)) (by simp) (by simp)
     have b1:=Zc (W1:=(wr.alloc (.cells #[.int .i64 (kn+1),.slice (p2.AA j) (r2.as_ j).n (p2.AC j)] 108))) (p:=⟨B,1,none⟩) (v:=.int .i64 r2.of) ((World.cell?_alloc_past _ _ _ hBl).trans q1) (by simp;omega)
     have b6:=Zc (W1:=(wr.alloc (.cells #[.int .i64 (kn+1),.slice (p2.AA j) (r2.as_ j).n (p2.AC j)] 108))) (p:=⟨B,6,none⟩) (v:=.int .i64 r2.dk.pr) ((World.cell?_alloc_past _ _ _ hBl).trans q6) (by simp;omega)
     have b7:=Zc (W1:=(wr.alloc (.cells #[.int .i64 (kn+1),.slice (p2.AA j) (r2.as_ j).n (p2.AC j)] 108))) (p:=⟨B,7,none⟩) (v:=.int .i64 kn) ((World.cell?_alloc_past _ _ _ hBl).trans q7) (by simp;omega)
     have b8:=Zc (W1:=(wr.alloc (.cells #[.int .i64 (kn+1),.slice (p2.AA j) (r2.as_ j).n (p2.AC j)] 108))) (p:=⟨B,8,none⟩) (v:=.slice p2.A.da r2.dk.n p2.A.dc) ((World.cell?_alloc_past _ _ _ hBl).trans q8) (by simp;omega)
     have b13:=Zc (W1:=(wr.alloc (.cells #[.int .i64 (kn+1),.slice (p2.AA j) (r2.as_ j).n (p2.AC j)] 108))) (p:=⟨B,13,none⟩) (v:=.int .i64 r2.bal) ((World.cell?_alloc_past _ _ _ hBl).trans q13) (by simp;omega)
     have hne:Nonempty (GW (wr.alloc (.cells #[.int .i64 (kn+1),.slice (p2.AA j) (r2.as_ j).n (p2.AC j)] 108))):=⟨⟨_,br _ _⟩⟩
     refine Zf (by kernel_rfl) (by kernel_rfl) ?_
     repeat (go_big_quiet_step (first|(go_at_call 164;go_must (exact Zp (HMO.out _)))|(go_at_call 156;go_must (exact Zp (HHS.out _)))))
     refine wpQuiet_nil ?_
     rintro w8 ⟨u,hu⟩
     have hw8:Below (wr.alloc (.cells #[.int .i64 (kn+1),.slice (p2.AA j) (r2.as_ j).n (p2.AC j)] 108)).1.size (wr.alloc (.cells #[.int .i64 (kn+1),.slice (p2.AA j) (r2.as_ j).n (p2.AC j)] 108)) w8:=hu▸u.prop
     clear hu u y0 y1 b1 b6 b7 b8 b13 hne q0 q1 q2 q3 q4 q5 q6 q7 q8 q9 q10 q11 q12 q13 q14 q15 q16 q17 qf
     have hb8:Below wr.1.size wr w8:=(Zb wr _).trans (hw8.mono (by simp))
     have F8:=FX.out.trans (FrP.of_below hb8)
     have B8:=BX.out.below hb8 hBl
     have g0:w8.cell? ⟨wr.1.size,0,none⟩=some (.int .i64 (kn+1)):=(hw8.cell (p:=⟨wr.1.size,0,none⟩) (by simp)).trans (by simp)
     have gq:=Ze B8.cell
     obtain ⟨_,_,_,_,_,_,_,g7,_⟩:=gq
     have gf:=B8.free
     have B9:=hid (B8.to (Jp B8.cell (.int .i64 (kn+1))))
     have F9:=hid (F8.setCell (p:=⟨B,7,none⟩) rfl (.int .i64 (kn+1)))
     clear F8 B8 hb8 hw8 FX BX
     go_wp2
     go_roundw
     case rel=>exact ⟨j+1,by omega,by go_num,F9.out,by rw [HS1.out];exact B9.out⟩
     case measure=>simp [intOf];omega
    | false=>
     have HS1:=hid (show Xd r2 (j+1)=Xd r2 j by show ZM _ _ _=_;unfold ZM;rw [if_neg (fun h=>by rw [decide_eq_true (show (Xd r2 j).toNat<r2.dk.n by have:=h.1;have:=h.2.2.1;omega),decide_eq_true h.2.2.2] at e3;cases e3)])
     have HMO:=hid (Jo (r2.as_ j).n (p2.AA j) (p2.AC j) r2.of true (by omega) (by simp;omega))
     have HHS:=hid (fun u:GW (wr.alloc (.cells #[.int .i64 (r2.as_ j).ix,.slice (p2.AA j) (r2.as_ j).n (p2.AC j)] 108))=>Jz ⟨r2.dk.pr,Xd r2 j,r2.dk.n,r2.dk.s⟩ p2.A.da p2.A.dc (Xd r2 j) r2.bal false hk0 (by omega) e3 u.val 0 wr.1.size (by have:=u.prop.size;simp at this;omega) ((HSL.out.below (Zb wr _) (lrf _)).below u.prop (by simp)))
     obtain ⟨ix,hix⟩:∃ ix,(r2.as_ j).ix=ix:=⟨_,rfl⟩
     obtain ⟨kn,hkn⟩:∃ kn,Xd r2 j=kn:=⟨_,rfl⟩
     have hix2:ix=kn+1:=by rw [←hix,←hkn];exact e1
     rw [hkn] at hk0 hk1 HS1 BX HHS
     rw [hix] at d0  HHS
     subst hix2
     have hjn:r2.an≤61:=HV2.out
     obtain ⟨q0,q1,q2,q3,q4,q5,q6,q7,q8,q9,q10,q11,q12,q13,q14,q15,q16,q17⟩:=Ze BX.out.cell
     have qf:=BX.out.free
     have hBl:=BX.out.lt
     clear hix hkn e3
     have hB1:B<wr.1.size+1:=by omega
     go_wp2
     have y0:=Zc (W1:=(wr.alloc (.cells #[.int .i64 (kn+1),.slice (p2.AA j) (r2.as_ j).n (p2.AC j)] 108))) (p:=⟨wr.1.size,0,none⟩) (v:=.int .i64 (kn+1)) (by simp) (by simp)
     have y1:=Zc (W1:=(wr.alloc (.cells #[.int .i64 (kn+1),.slice (p2.AA j) (r2.as_ j).n (p2.AC j)] 108))) (p:=⟨wr.1.size,1,none⟩) (v:=.slice (p2.AA j) (r2.as_ j).n (p2.AC j)) (by simp) (by simp)
     have b1:=Zc (W1:=(wr.alloc (.cells #[.int .i64 (kn+1),.slice (p2.AA j) (r2.as_ j).n (p2.AC j)] 108))) (p:=⟨B,1,none⟩) (v:=.int .i64 r2.of) ((World.cell?_alloc_past _ _ _ hBl).trans q1) (by simp;omega)
     have b6:=Zc (W1:=(wr.alloc (.cells #[.int .i64 (kn+1),.slice (p2.AA j) (r2.as_ j).n (p2.AC j)] 108))) (p:=⟨B,6,none⟩) (v:=.int .i64 r2.dk.pr) ((World.cell?_alloc_past _ _ _ hBl).trans q6) (by simp;omega)
     have b7:=Zc (W1:=(wr.alloc (.cells #[.int .i64 (kn+1),.slice (p2.AA j) (r2.as_ j).n (p2.AC j)] 108))) (p:=⟨B,7,none⟩) (v:=.int .i64 kn) ((World.cell?_alloc_past _ _ _ hBl).trans q7) (by simp;omega)
     have b8:=Zc (W1:=(wr.alloc (.cells #[.int .i64 (kn+1),.slice (p2.AA j) (r2.as_ j).n (p2.AC j)] 108))) (p:=⟨B,8,none⟩) (v:=.slice p2.A.da r2.dk.n p2.A.dc) ((World.cell?_alloc_past _ _ _ hBl).trans q8) (by simp;omega)
     have b13:=Zc (W1:=(wr.alloc (.cells #[.int .i64 (kn+1),.slice (p2.AA j) (r2.as_ j).n (p2.AC j)] 108))) (p:=⟨B,13,none⟩) (v:=.int .i64 r2.bal) ((World.cell?_alloc_past _ _ _ hBl).trans q13) (by simp;omega)
     have hne:Nonempty (GW (wr.alloc (.cells #[.int .i64 (kn+1),.slice (p2.AA j) (r2.as_ j).n (p2.AC j)] 108))):=⟨⟨_,br _ _⟩⟩
     refine Zf (by kernel_rfl) (by kernel_rfl) ?_
     repeat (go_big_quiet_step (first|(go_at_call 164;go_must (exact Zp (HMO.out _)))|(go_at_call 156;go_must (exact Zp (HHS.out _)))))
     exact apVf2
   ·skip
    have HS1:=hid (show Xd r2 (j+1)=Xd r2 j by show ZM _ _ _=_;unfold ZM;rw [if_neg (fun h=>e2 h.2.1)])
    have HMO:=hid (Jo (r2.as_ j).n (p2.AA j) (p2.AC j) r2.of false (by omega) (by simp;omega))
    obtain ⟨ix,hix⟩:∃ ix,(r2.as_ j).ix=ix:=⟨_,rfl⟩
    obtain ⟨kn,hkn⟩:∃ kn,Xd r2 j=kn:=⟨_,rfl⟩
    have hix2:ix=kn+1:=by rw [←hix,←hkn];exact e1
    rw [hkn] at hk0 hk1 HS1 BX
    rw [hix] at d0
    subst hix2
    have hjn:r2.an≤61:=HV2.out
    obtain ⟨q0,q1,q2,q3,q4,q5,q6,q7,q8,q9,q10,q11,q12,q13,q14,q15,q16,q17⟩:=Ze BX.out.cell
    have qf:=BX.out.free
    have hBl:=BX.out.lt
    clear hix hkn e2
    have hB1:B<wr.1.size+1:=by omega
    go_wp2
    have y0:=Zc (W1:=(wr.alloc (.cells #[.int .i64 (kn+1),.slice (p2.AA j) (r2.as_ j).n (p2.AC j)] 108))) (p:=⟨wr.1.size,0,none⟩) (v:=.int .i64 (kn+1)) (by simp) (by simp)
    have y1:=Zc (W1:=(wr.alloc (.cells #[.int .i64 (kn+1),.slice (p2.AA j) (r2.as_ j).n (p2.AC j)] 108))) (p:=⟨wr.1.size,1,none⟩) (v:=.slice (p2.AA j) (r2.as_ j).n (p2.AC j)) (by simp) (by simp)
    have b1:=Zc (W1:=(wr.alloc (.cells #[.int .i64 (kn+1),.slice (p2.AA j) (r2.as_ j).n (p2.AC j)] 108))) (p:=⟨B,1,none⟩) (v:=.int .i64 r2.of) ((World.cell?_alloc_past _ _ _ hBl).trans q1) (by simp;omega)
    have b6:=Zc (W1:=(wr.alloc (.cells #[.int .i64 (kn+1),.slice (p2.AA j) (r2.as_ j).n (p2.AC j)] 108))) (p:=⟨B,6,none⟩) (v:=.int .i64 r2.dk.pr) ((World.cell?_alloc_past _ _ _ hBl).trans q6) (by simp;omega)
    have b7:=Zc (W1:=(wr.alloc (.cells #[.int .i64 (kn+1),.slice (p2.AA j) (r2.as_ j).n (p2.AC j)] 108))) (p:=⟨B,7,none⟩) (v:=.int .i64 kn) ((World.cell?_alloc_past _ _ _ hBl).trans q7) (by simp;omega)
    have b8:=Zc (W1:=(wr.alloc (.cells #[.int .i64 (kn+1),.slice (p2.AA j) (r2.as_ j).n (p2.AC j)] 108))) (p:=⟨B,8,none⟩) (v:=.slice p2.A.da r2.dk.n p2.A.dc) ((World.cell?_alloc_past _ _ _ hBl).trans q8) (by simp;omega)
    have b13:=Zc (W1:=(wr.alloc (.cells #[.int .i64 (kn+1),.slice (p2.AA j) (r2.as_ j).n (p2.AC j)] 108))) (p:=⟨B,13,none⟩) (v:=.int .i64 r2.bal) ((World.cell?_alloc_past _ _ _ hBl).trans q13) (by simp;omega)
    have hne:Nonempty (GW (wr.alloc (.cells #[.int .i64 (kn+1),.slice (p2.AA j) (r2.as_ j).n (p2.AC j)] 108))):=⟨⟨_,br _ _⟩⟩
    refine Zf (by kernel_rfl) (by kernel_rfl) ?_
    repeat (go_big_quiet_step ((go_at_call 164;go_must (exact Zp (HMO.out _)))))
    exact apVf2
  ·skip
   have HS1:=hid (show Xd r2 (j+1)=Xd r2 j by show ZM _ _ _=_;unfold ZM;rw [if_neg (fun h=>e1 h.1)])
   obtain ⟨ix,hix⟩:∃ ix,(r2.as_ j).ix=ix:=⟨_,rfl⟩
   obtain ⟨kn,hkn⟩:∃ kn,Xd r2 j=kn:=⟨_,rfl⟩
   have hz:(ix==kn+1)=false:=by rw [←hix,←hkn];simp;exact e1
   rw [hkn] at hk0 hk1 HS1 BX
   rw [hix] at d0
   have hjn:r2.an≤61:=HV2.out
   obtain ⟨q0,q1,q2,q3,q4,q5,q6,q7,q8,q9,q10,q11,q12,q13,q14,q15,q16,q17⟩:=Ze BX.out.cell
   have qf:=BX.out.free
   have hBl:=BX.out.lt
   clear hix hkn e1
   have hB1:B<wr.1.size+1:=by omega
   go_wp2
   have y0:=Zc (W1:=(wr.alloc (.cells #[.int .i64 ix,.slice (p2.AA j) (r2.as_ j).n (p2.AC j)] 108))) (p:=⟨wr.1.size,0,none⟩) (v:=.int .i64 ix) (by simp) (by simp)
   have y1:=Zc (W1:=(wr.alloc (.cells #[.int .i64 ix,.slice (p2.AA j) (r2.as_ j).n (p2.AC j)] 108))) (p:=⟨wr.1.size,1,none⟩) (v:=.slice (p2.AA j) (r2.as_ j).n (p2.AC j)) (by simp) (by simp)
   have b1:=Zc (W1:=(wr.alloc (.cells #[.int .i64 ix,.slice (p2.AA j) (r2.as_ j).n (p2.AC j)] 108))) (p:=⟨B,1,none⟩) (v:=.int .i64 r2.of) ((World.cell?_alloc_past _ _ _ hBl).trans q1) (by simp;omega)
   have b6:=Zc (W1:=(wr.alloc (.cells #[.int .i64 ix,.slice (p2.AA j) (r2.as_ j).n (p2.AC j)] 108))) (p:=⟨B,6,none⟩) (v:=.int .i64 r2.dk.pr) ((World.cell?_alloc_past _ _ _ hBl).trans q6) (by simp;omega)
   have b7:=Zc (W1:=(wr.alloc (.cells #[.int .i64 ix,.slice (p2.AA j) (r2.as_ j).n (p2.AC j)] 108))) (p:=⟨B,7,none⟩) (v:=.int .i64 kn) ((World.cell?_alloc_past _ _ _ hBl).trans q7) (by simp;omega)
   have b8:=Zc (W1:=(wr.alloc (.cells #[.int .i64 ix,.slice (p2.AA j) (r2.as_ j).n (p2.AC j)] 108))) (p:=⟨B,8,none⟩) (v:=.slice p2.A.da r2.dk.n p2.A.dc) ((World.cell?_alloc_past _ _ _ hBl).trans q8) (by simp;omega)
   have b13:=Zc (W1:=(wr.alloc (.cells #[.int .i64 ix,.slice (p2.AA j) (r2.as_ j).n (p2.AC j)] 108))) (p:=⟨B,13,none⟩) (v:=.int .i64 r2.bal) ((World.cell?_alloc_past _ _ _ hBl).trans q13) (by simp;omega)
   have hne:Nonempty (GW (wr.alloc (.cells #[.int .i64 ix,.slice (p2.AA j) (r2.as_ j).n (p2.AC j)] 108))):=⟨⟨_,br _ _⟩⟩
   refine Zf (by kernel_rfl) (by kernel_rfl) ?_
   repeat (go_big_quiet_step (fail))
   refine wpQuiet_nil ?_
   rintro w8 ⟨u,hu⟩
   have hw8:Below (wr.alloc (.cells #[.int .i64 ix,.slice (p2.AA j) (r2.as_ j).n (p2.AC j)] 108)).1.size (wr.alloc (.cells #[.int .i64 ix,.slice (p2.AA j) (r2.as_ j).n (p2.AC j)] 108)) w8:=hu▸u.prop
   clear hu u y0 y1 b1 b6 b7 b8 b13 hne q0 q1 q2 q3 q4 q5 q6 q7 q8 q9 q10 q11 q12 q13 q14 q15 q16 q17 qf
   have hb8:Below wr.1.size wr w8:=(Zb wr _).trans (hw8.mono (by simp))
   have F8:=FX.out.trans (FrP.of_below hb8)
   have B8:=BX.out.below hb8 hBl
   have B9:=hid B8
   have F9:=hid F8
   clear F8 B8 hb8 hw8 FX BX
   go_wp2
   go_roundw
   case rel=>exact ⟨j+1,by omega,by go_num,F9.out,by rw [HS1.out];exact B9.out⟩
   case measure=>simp [intOf];omega):P:=h
theorem apVf3 {P:Prop} (h:P:=by
  have e9:=HR2.out
  subst e9
  refine bodyPost_end (results_none rfl _ _ _) rfl ⟨rfl,p2,B9.out,(G3.out.fr F9.out (fun q hq e=>HB2.out q hq e)).kn _,?_,fun q hq=>HRB.out q hq,?_,KP3.out⟩
  ·exact FW.out.trans2 F9.out (fun q _ e=>Or.inl e)
  ·have ak:=RM3.out.fr F9.out (fun h0=>HB2.out _ ⟨6,by omega,Or.inl ⟨Nat.pos_of_ne_zero h0,rfl⟩⟩)
   exact ⟨ak.al,ak.a0,ak.rm⟩):P:=h
set_option maxRecDepth 100000 in
theorem Eh (r:Rc) (p:RcP) (B:Nat) (x ix:Int) (w:World) (hbx:Bx w B (rcC r p.A)) (hg:RcG w r p) (hB:∀ q,rbs p r q→q≠B) (hrm:AkRm w r p) (hAC:∀ i,i<r.an→(r.as_ i).ix=ix→p.AC i=(r.as_ i).n) (hv:EK r) (hix:0≤ix∧ix≤1000000) (hh:XN r.an (fun i=>(r.as_ i).ix) ix=true) :
  Calls Tryz.prog 155 #[.pointer (some ⟨B,0,none⟩),.int .i64 x,.int .i64 ix] w fun e w'=>e=.returned (.tuple #[])∧∃ p',Bx w' B (rcC (Ya r x ix) p'.A)∧RcG w' (Ya r x ix) p'∧FrP (fun q=>q=B∨rb p r 6 q) w w'∧(∀ q,rbs p' (Ya r x ix) q→rbs p r q∨w.1.size≤q)∧AkRm w' (Ya r x ix) p'∧AkKeep r p (Ya r x ix) p' ix:=by
 have HG:=hid hg
 have HBX:=hid hbx
 have HB:=hid hB
 have HV:=hid hv
 have hBl:=hbx.lt
 have hle:=KG (fun i=>(r.as_ i).ix) ix r.an
 have han:=hv.an
 have HSE:=hid (JU r.an r.as_ p.A.aa p.A.ac p.g6 p.AA p.AC p.Ab ix w (by omega) hix hv.ix hv.asc hg.at_.o6)
 have HRM:=hid hrm
 have HAC:=hid hAC
 obtain ⟨q0,q1,q2,q3,q4,q5,q6,q7,q8,q9,q10,q11,q12,q13,q14,q15,q16,q17⟩:=Ze hbx.cell
 clear hg hbx hB hv hix hAC hrm
 obtain ⟨k,hk⟩:∃ k,rk (fun i=>(r.as_ i).ix) ix r.an=k:=⟨_,rfl⟩
 have hkn:k<r.an:=by simp only [XN,Bool.and_eq_true,decide_eq_true_eq,hk] at hh;omega
 have HIX:Hid ((r.as_ k).ix=ix):=hid (by simp only [XN,Bool.and_eq_true,decide_eq_true_eq,hk] at hh;exact hh.2)
 have HT:Hid (Ya r x ix=UJ (Zw r k x)):=hid (by unfold Ya Jg;rw [hh,hk];rfl)
 rw [hk,hh] at HSE
 rw [HT.out]
 have had:=HG.out.at_.o6.addr (by omega)
 rw [had] at HSE q16
 clear hle
 go_enter Tryz.func155,Tryz.ntmps155
 go_wp2_with (go_at_call 167;go_must (refine HSE.out.mono ?_;rintro e w1 ⟨rfl,hb1⟩;have z1:=hb1.size;have HB1:=hid hb1;have b16:=(hb1.cell (p:=⟨B,16,none⟩) hBl).trans q16;have bf:=(Bx.below HBX.out hb1 hBl).free;clear hb1 q0 q1 q2 q3 q4 q5 q6 q7 q8 q9 q10 q11 q12 q13 q14 q15 q16 q17))
 have G1:=hid (HG.out.grow HB1.out)
 have X1:=hid (HBX.out.below HB1.out hBl)
 have F1:Hid (FrP (fun q=>q=B∨rb p r 6 q) w w1):=hid (FrP.of_below HB1.out)
 have RB1:Hid (∀ q,rbs p r q→rbs p r q∨w.1.size≤q):=hid fun q hq=>Or.inl hq
 have G61:Hid (p.g6<w.1.size→rb p r 6 p.g6):=hid fun _=>Or.inl ⟨by omega,rfl⟩
 have AC1:Hid (p.AC k=(r.as_ k).n):=hid (HAC.out k hkn HIX.out)
 have FN1:Hid (∀ j,j<r.an→(r.as_ j).n≤10):=hid HV.out.fn
 have FA1:Hid (∀ a b,a<b→b<(r.as_ k).n→(r.as_ k).s a<(r.as_ k).s b):=hid (HV.out.fasc k hkn)
 have DK1:Hid (0≤r.dk.kn∧r.dk.kn≤r.dk.n∧r.dk.n≤60):=hid ⟨HV.out.k0,HV.out.k1,HV.out.dn⟩
 have HBq:=HB
 have RM1:=hid (HRM.out.grow HB1.out)
 have HK1:=hid (Ni r p k)
 clear HAC HSE HT HG HBX HV b16 bf had HB1
 obtain ⟨c0,rw0,hat0⟩:=G1.out.at_.o6.row (by omega)
 obtain ⟨_,a1⟩:=hat0 k hkn
 have hg6:=rw0.lt
 have d1:=rw0.cell (k*2+1) (by omega)
 rw [a1,AC1.out] at d1
 have dfz:=rw0.free (k*2+1)
 have HO:=hid (G1.out.at_.o6.hold k hkn)
 have hlt9:0<(r.as_ k).n→p.Ab k<w1.1.size:=fun h=>G1.out.at_.o6.hlt k hkn (by omega)
 have b16:=X1.out.cell 16
 have b16':w1.cell? ⟨B,16,none⟩=some (.slice (some ⟨p.g6,0,none⟩) r.an p.A.ac):=by rw [←G1.out.at_.o6.addr (by omega)];exact b16
 clear rw0 hat0 a1 b16
 refine Oa _ _ _ _ _ _ _ _ _ _ _ _ _ _ _ _ _ _ _ _ _ _ _ _ _ _ _ _ _ _ _ _ _ _ _ _ _ _ _ _ _ _ _ _ _ _ _ _ _ _ _ _ _ _ _ _ _ _ _ _ _ _ _ _ _ _ _ _ _ _ _ _ _ _ _ _ _ _ _ _ _ _ _ _ _ _ _ _ _ _ _ _ _ _ B p.g6 r.an p.A.ac k x (r.as_ k) (p.AA k) (p.Ab k) w1 b16' (by omega) (by omega) d1 dfz hkn (by omega) (by have:=FN1.out k hkn;omega) FA1.out hlt9 HO.out _ ?_
 rintro t v3 X ⟨ad',cap',b',Y,rfl,k1,k2,k3,k4⟩
 obtain ⟨x3,g3,s3,f3⟩:=G1.out.ackPut X1.out HBq.out k4 hkn (cap':=cap') k1 k2 (by rcases k3 with ⟨h1,h2⟩|h1;exact Or.inl ⟨h1,by omega⟩;exact Or.inr h1)
 have FW:Hid (FrP (fun q=>q=B∨rb p r 6 q) w (Y.setCell ⟨p.g6,k*2+1,none⟩ (.slice ad' (Zy (r.as_ k).n (r.as_ k).s x) cap'))):=hid (F1.out.trans2 f3 (fun q hq e=>by subst e;exact Or.inr (G61.out hq)))
 have zz1:=F1.out.size
 have HRB:=hid (show ∀ q,rbs (Yx p k ad' cap' b') (Zw r k x) q→rbs p r q∨w.1.size≤q from fun q hq=>by rcases s3 q hq with h|h;exact RB1.out q h;exact Or.inr (by omega))
 have X3:Hid (Bx (Y.setCell ⟨p.g6,k*2+1,none⟩ (.slice ad' (Zy (r.as_ k).n (r.as_ k).s x) cap')) B (rcC (Zw r k x) (Yx p k ad' cap' b').A)):=hid x3
 have G3:Hid (RcG (Y.setCell ⟨p.g6,k*2+1,none⟩ (.slice ad' (Zy (r.as_ k).n (r.as_ k).s x) cap')) (Zw r k x) (Yx p k ad' cap' b')):=hid g3
 have HB2:=hid (show ∀ q,rbs (Yx p k ad' cap' b') (Zw r k x) q→q≠B from fun q hq=>by rcases HRB.out q hq with h|h;exact HB.out q h;omega)
 have HV2:Hid ((Zw r k x).an≤61):=hid (show r.an≤61 by omega)
 have HV3:Hid (0≤(Zw r k x).dk.kn∧(Zw r k x).dk.kn≤(Zw r k x).dk.n∧(Zw r k x).dk.n≤60):=hid DK1.out
 have HV4:=hid (Jl (x:=x) FN1.out hkn)
 have RM3:Hid (AkRm (Y.setCell ⟨p.g6,k*2+1,none⟩ (.slice ad' (Zy (r.as_ k).n (r.as_ k).s x) cap')) (Zw r k x) (Yx p k ad' cap' b')):=hid ((RM1.out.grow k4).put _ _)
 have KP3:Hid (AkKeep r p (Zw r k x) (Yx p k ad' cap' b') ix):=hid (AkKeep.put HK1.out HIX.out)
 clear x3 g3 s3 f3 k1 k2 k3 k4 d1 dfz HO hlt9 b16'
 clear G1 X1 HBq AC1 FN1 FA1 F1 G61 RB1 DK1 HB
 obtain ⟨r2,hr2⟩:∃ r2,Zw r k x=r2:=⟨_,rfl⟩
 obtain ⟨p2,hp2⟩:∃ p2,Yx p k ad' cap' b'=p2:=⟨_,rfl⟩
 obtain ⟨w3,hw3⟩:∃ w3,Y.setCell ⟨p.g6,k*2+1,none⟩ (.slice ad' (Zy (r.as_ k).n (r.as_ k).s x) cap')=w3:=⟨_,rfl⟩
 rw [hr2,hp2] at HRB HB2
 rw [hr2] at HV2 HV3 HV4
 rw [hr2,hp2,hw3] at X3 G3 RM3
 rw [hr2,hp2] at KP3
 clear RM1 HK1 HIX
 rw [hw3] at FW ⊢
 have HR2:=hid hr2
 clear hr2 hp2 hw3
 have W3:RcG w3 r2 p2:=G3.out
 have hgl:0<r2.an→p2.g6<w3.1.size:=fun h0=>Zr W3.at_ (j:=6) (by omega) (Or.inl ⟨h0,rfl⟩)
 have HROW:=hid (show ∀ wr,FrP (fun q=>q=B) w3 wr→∀ j,j<r2.an→p2.A.aa=some ⟨p2.g6,0,none⟩∧p2.g6<wr.1.size∧wr.cell? ⟨p2.g6,j*2,none⟩=some (.int .i64 (r2.as_ j).ix)∧wr.cell? ⟨p2.g6,j*2+1,none⟩=some (.slice (p2.AA j) (r2.as_ j).n (p2.AC j)) from fun wr hf j hj=>by
  have o:=W3.at_.o6.fr hf (fun q hq e=>HB2.out q ⟨6,by omega,hq⟩ e)
  obtain ⟨c,r,hat⟩:=o.row (by omega)
  obtain ⟨a0,a1⟩:=hat j hj
  exact ⟨o.addr (by omega),r.lt,by rw [r.cell _ (by omega),a0],by rw [r.cell _ (by omega),a1]⟩)
 have HSLS:=hid (show ∀ wr,FrP (fun q=>q=B) w3 wr→SlsIn wr 0 wr.1.size p2.A.da r2.dk.n r2.dk.s from fun wr hf=>(W3.at_.o1.frP hf (fun h0=>⟨fun e=>HB2.out p2.g1 ⟨1,by omega,h0,rfl⟩ e,Zr W3.at_ (j:=1) (by omega) ⟨h0,rfl⟩⟩)).isInG (fun h0=>ltl (Zr W3.at_ (j:=1) (by omega) ⟨h0,rfl⟩) hf.size))
 have HKN:=hid (KY r2 HV3.out.1 HV3.out.2.1)
 have BX3:=hid (show Bx w3 B (rcC (knR r2 (Xd r2 0)) p2.A) from X3.out)
 clear W3
 obtain ⟨q0,q1,q2,q3,q4,q5,q6,q7,q8,q9,q10,q11,q12,q13,q14,q15,q16,q17⟩:=Ze X3.out.cell
 go_wp2
 clear q0 q1 q2 q3 q4 q5 q6 q7 q8 q9 q10 q11 q12 q13 q14 q15 q16 q17
 go_loopw [55] (fun i wr=>∃ j:Nat,j≤r2.an∧i=.int .i64 j∧FrP (fun q=>q=B) w3 wr∧Bx wr B (rcC (knR r2 (Xd r2 j)) p2.A)) (fun i _=>r2.an-(intOf i).toNat)
 case atStart=>exact ⟨0,zle _,rfl,FrP.refl _ _,BX3.out⟩
 case round=>
  obtain ⟨j,hj,rfl,fx,bx⟩:=hrel
  have FX:=hid fx
  have BX:=hid bx
  clear fx bx BX3
  by_cases hjn:j<r2.an
  ·exact apVf0
  ·obtain rfl:j=r2.an:=by omega
   have F9:=hid FX.out
   have B9:=hid BX.out
   clear FX BX
   go_wp2
   exact apVf3
theorem apVf6 {P:Prop} (h:P:=by
  have hj':j<r.an+1:=hj
  show (YF r.as_ k (ak0 ix) j).n≤10
  rcases Nat.lt_trichotomy j k with h1|h1|h1
  ·rw [YH h1];exact HV.out.fn j (by omega)
  ·subst h1;rw [Yf];exact zle _
  ·rw [YI h1];exact HV.out.fn (j-1) (by omega)):P:=h
set_option maxRecDepth 100000 in
theorem ER (r:Rc) (p:RcP) (B:Nat) (x ix:Int) (w:World) (hbx:Bx w B (rcC r p.A)) (hg:RcG w r p) (hB:∀ q,rbs p r q→q≠B) (hrm:AkRm w r p) (hAC:∀ i,i<r.an→(r.as_ i).ix=ix→p.AC i=(r.as_ i).n) (hv:EK r) (hix:0≤ix∧ix≤1000000) (hh:XN r.an (fun i=>(r.as_ i).ix) ix=false) :
  Calls Tryz.prog 155 #[.pointer (some ⟨B,0,none⟩),.int .i64 x,.int .i64 ix] w fun e w'=>e=.returned (.tuple #[])∧∃ p',Bx w' B (rcC (Ya r x ix) p'.A)∧RcG w' (Ya r x ix) p'∧FrP (fun q=>q=B∨rb p r 6 q) w w'∧(∀ q,rbs p' (Ya r x ix) q→rbs p r q∨w.1.size≤q)∧AkRm w' (Ya r x ix) p'∧AkKeep r p (Ya r x ix) p' ix:=by
 have HG:=hid hg
 have HBX:=hid hbx
 have HB:=hid hB
 have HV:=hid hv
 have hBl:=hbx.lt
 have hle:=KG (fun i=>(r.as_ i).ix) ix r.an
 have han:=hv.an
 have HSE:=hid (JU r.an r.as_ p.A.aa p.A.ac p.g6 p.AA p.AC p.Ab ix w (by omega) hix hv.ix hv.asc hg.at_.o6)
 have HRM:=hid hrm
 have HAC:=hid hAC
 obtain ⟨q0,q1,q2,q3,q4,q5,q6,q7,q8,q9,q10,q11,q12,q13,q14,q15,q16,q17⟩:=Ze hbx.cell
 clear hg hbx hB hv hix hAC hrm
 obtain ⟨k,hk⟩:∃ k,rk (fun i=>(r.as_ i).ix) ix r.an=k:=⟨_,rfl⟩
 have HT:Hid (Ya r x ix=UJ (Zw (ZC r k ix) k x)):=hid (by unfold Ya Jg;rw [hh,hk];rfl)
 rw [hk] at hle
 rw [hk,hh] at HSE
 rw [HT.out]
 have CI:=hid (fun X (hb:Below w.1.size w X) vb (hv:vb<X.1.size) (hvf:∀ o,X.frozen? ⟨vb,o,none⟩=false) (h6:0<r.an→vb≠p.g6) (h0:X.cell? ⟨vb,0,none⟩=some (.int .i64 ix)) (h1:X.cell? ⟨vb,1,none⟩=some (.slice none 0 0))=>insAckR r p k ix vb X (by omega) hle (HG.out.grow hb) (HRM.out.grow hb) hvf hv h6 h0 h1)
 go_enter Tryz.func155,Tryz.ntmps155
 go_wp2_with (first|(go_at_call 167;go_must (refine HSE.out.mono ?_;rintro e w1 ⟨rfl,hb1⟩;have z1:=hb1.size;have HB1:=hid hb1;have b16:=(hb1.cell (p:=⟨B,16,none⟩) hBl).trans q16;have bf:=(Bx.below HBX.out hb1 hBl).free;clear hb1 q0 q1 q2 q3 q4 q5 q6 q7 q8 q9 q10 q11 q12 q13 q14 q15 q16 q17))|(go_at_call 169;go_must (refine (CI.out (w1.alloc (.cells #[.int .i64 ix,.slice none 0 0] 108)) (HB1.out.alloc z1 _) w1.1.size (by simp) (fun o=>(Bx.new w1 #[.int .i64 ix,.slice none 0 0] 108).free o) (fun h0=>by have:=HG.out.at_.lt p.g6 ⟨6,by omega,Or.inl ⟨h0,rfl⟩⟩;omega) (by simp) (by simp)).mono ?_;rintro e w2 ⟨g',cap',c,rfl,hat,hrow,hf2,hg'⟩;have HB2:=hid ((FrP.of_below (P:=fun q=>0<r.an∧q=p.g6) (HB1.out.alloc z1 (.cells #[.int .i64 ix,.slice none 0 0] 108))).trans hf2);have X2:=hid (HBX.out.frP HB2.out (fun e=>HB.out _ ⟨6,by omega,Or.inl ⟨e.1,rfl⟩⟩ e.2.symm));have c16:w2.cell? ⟨B,16,none⟩=some (.slice p.A.aa r.an p.A.ac):=X2.out.cell 16;have cf:=X2.out.free;have cl:=X2.out.lt;have HG':=hid hg';have HAT:=hid hat;have HROW:=hid hrow;clear hg' hat hrow hf2 b16 bf)))
 have zz2:=HB2.out.size
 have hg':(0<r.an∧g'=p.g6)∨w.1.size≤g':=by
  rcases HG'.out with h|h
  ·exact Or.inl h
  ·exact Or.inr (by simp at h;omega)
 obtain ⟨x2,g2,s2,f2,m2⟩:=HG.out.ackInsR HBX.out HB.out HB2.out hle hg' HAT.out ix cap' HROW.out
 have RM1:=hid m2
 have HK1:=hid (Ny r p k ix g' cap' hle)
 have HIX:Hid (((ZC r k ix).as_ k).ix=ix):=hid (by rw [show (ZC r k ix).as_ k=ak0 ix from Yf])
 have hkn:k<(ZC r k ix).an:=Nat.lt_succ_of_le hle
 have han1:(ZC r k ix).an≤61:=by show r.an+1≤61;omega
 have hyk:(ZC r k ix).as_ k=ak0 ix:=Yf
 have AC1:Hid ((JG p k g' cap').AC k=((ZC r k ix).as_ k).n):=hid (by rw [hyk];exact Yf)
 have FN1:Hid (∀ j,j<(ZC r k ix).an→((ZC r k ix).as_ j).n≤10):=hid fun j hj=>by
  exact apVf6
 have FA1:Hid (∀ a b,a<b→b<((ZC r k ix).as_ k).n→((ZC r k ix).as_ k).s a<((ZC r k ix).as_ k).s b):=hid fun a b _ hb=>by rw [hyk] at hb;exact absurd hb (nlz _)
 have DK1:Hid (0≤(ZC r k ix).dk.kn∧(ZC r k ix).dk.kn≤(ZC r k ix).dk.n∧(ZC r k ix).dk.n≤60):=hid ⟨HV.out.k0,HV.out.k1,HV.out.dn⟩
 have G1:=hid g2
 have X1:=hid x2
 have RB1:=hid s2
 have F1:=hid f2
 have G61:Hid ((JG p k g' cap').g6<w.1.size→rb p r 6 (JG p k g' cap').g6):=hid fun h=>by
  have h':g'<w.1.size:=h
  rcases hg' with h2|h2
  ·exact h2.2▸Or.inl ⟨h2.1,rfl⟩
  ·omega
 have HBq:Hid (∀ q,rbs (JG p k g' cap') (ZC r k ix) q→q≠B):=hid fun q hq=>by rcases RB1.out q hq with h|h;exact HB.out q h;omega
 obtain ⟨r1,hr1⟩:∃ r1,ZC r k ix=r1:=⟨_,rfl⟩
 obtain ⟨p1,hp1⟩:∃ p1,JG p k g' cap'=p1:=⟨_,rfl⟩
 obtain ⟨W1,hW1⟩:∃ W1,w2.setCell ⟨B,16,none⟩ (.slice (some ⟨g',0,none⟩) (r.an+1) cap')=W1:=⟨_,rfl⟩
 rw [hr1] at hkn han1 FN1 FA1 DK1 HIX
 rw [hr1,hp1,hW1] at RM1
 rw [hr1,hp1] at HK1
 rw [hr1,hp1] at AC1 RB1 HBq
 rw [hp1] at G61
 rw [hr1,hp1,hW1] at G1 X1
 rw [hW1] at F1 ⊢
 have HR1:=hid hr1
 have hW1l:=X1.out.lt
 have hW1z:=F1.out.size
 clear hr1 hp1 hW1 hyk x2 g2 s2 f2 m2 X2 cl HRM HAC HSE HT HG HBX HV HB1 HB2 CI HAT HROW HG' c16 cf hg'
 obtain ⟨c0,rw0,hat0⟩:=G1.out.at_.o6.row (by omega)
 obtain ⟨_,a1⟩:=hat0 k hkn
 have hg6:=rw0.lt
 have d1:=rw0.cell (k*2+1) (by omega)
 rw [a1,AC1.out] at d1
 have dfz:=rw0.free (k*2+1)
 have HO:=hid (G1.out.at_.o6.hold k hkn)
 have hlt9:0<(r1.as_ k).n→p1.Ab k<W1.1.size:=fun h=>G1.out.at_.o6.hlt k hkn (by omega)
 have b16:=X1.out.cell 16
 have b16':W1.cell? ⟨B,16,none⟩=some (.slice (some ⟨p1.g6,0,none⟩) r1.an p1.A.ac):=by rw [←G1.out.at_.o6.addr (by omega)];exact b16
 clear rw0 hat0 a1 b16
 refine Oa _ _ _ _ _ _ _ _ _ _ _ _ _ _ _ _ _ _ _ _ _ _ _ _ _ _ _ _ _ _ _ _ _ _ _ _ _ _ _ _ _ _ _ _ _ _ _ _ _ _ _ _ _ _ _ _ _ _ _ _ _ _ _ _ _ _ _ _ _ _ _ _ _ _ _ _ _ _ _ _ _ _ _ _ _ _ _ _ _ _ _ _ _ _ B p1.g6 r1.an p1.A.ac k x (r1.as_ k) (p1.AA k) (p1.Ab k) W1 b16' (by omega) (by omega) d1 dfz hkn (by omega) (by have:=FN1.out k hkn;omega) FA1.out hlt9 HO.out _ ?_
 rintro t v3 X ⟨ad',cap',b',Y,rfl,k1,k2,k3,k4⟩
 obtain ⟨x3,g3,s3,f3⟩:=G1.out.ackPut X1.out HBq.out k4 hkn (cap':=cap') k1 k2 (by rcases k3 with ⟨h1,h2⟩|h1;exact Or.inl ⟨h1,by omega⟩;exact Or.inr h1)
 have FW:Hid (FrP (fun q=>q=B∨rb p r 6 q) w (Y.setCell ⟨p1.g6,k*2+1,none⟩ (.slice ad' (Zy (r1.as_ k).n (r1.as_ k).s x) cap'))):=hid (F1.out.trans2 f3 (fun q hq e=>by subst e;exact Or.inr (G61.out hq)))
 have zz1:=F1.out.size
 have HRB:=hid (show ∀ q,rbs (Yx p1 k ad' cap' b') (Zw r1 k x) q→rbs p r q∨w.1.size≤q from fun q hq=>by rcases s3 q hq with h|h;exact RB1.out q h;exact Or.inr (by omega))
 have X3:Hid (Bx (Y.setCell ⟨p1.g6,k*2+1,none⟩ (.slice ad' (Zy (r1.as_ k).n (r1.as_ k).s x) cap')) B (rcC (Zw r1 k x) (Yx p1 k ad' cap' b').A)):=hid x3
 have G3:Hid (RcG (Y.setCell ⟨p1.g6,k*2+1,none⟩ (.slice ad' (Zy (r1.as_ k).n (r1.as_ k).s x) cap')) (Zw r1 k x) (Yx p1 k ad' cap' b')):=hid g3
 have HB2:=hid (show ∀ q,rbs (Yx p1 k ad' cap' b') (Zw r1 k x) q→q≠B from fun q hq=>by rcases HRB.out q hq with h|h;exact HB.out q h;omega)
 have HV2:Hid ((Zw r1 k x).an≤61):=hid (show r1.an≤61 by omega)
 have HV3:Hid (0≤(Zw r1 k x).dk.kn∧(Zw r1 k x).dk.kn≤(Zw r1 k x).dk.n∧(Zw r1 k x).dk.n≤60):=hid DK1.out
 have HV4:=hid (Jl (x:=x) FN1.out hkn)
 have RM3:Hid (AkRm (Y.setCell ⟨p1.g6,k*2+1,none⟩ (.slice ad' (Zy (r1.as_ k).n (r1.as_ k).s x) cap')) (Zw r1 k x) (Yx p1 k ad' cap' b')):=hid ((RM1.out.grow k4).put _ _)
 have KP3:Hid (AkKeep r p (Zw r1 k x) (Yx p1 k ad' cap' b') ix):=hid (AkKeep.put HK1.out HIX.out)
 clear x3 g3 s3 f3 k1 k2 k3 k4 d1 dfz HO hlt9 b16'
 clear G1 X1 HBq AC1 FN1 FA1 F1 G61 RB1 DK1 HB
 obtain ⟨r2,hr2⟩:∃ r2,Zw r1 k x=r2:=⟨_,rfl⟩
 obtain ⟨p2,hp2⟩:∃ p2,Yx p1 k ad' cap' b'=p2:=⟨_,rfl⟩
 obtain ⟨w3,hw3⟩:∃ w3,Y.setCell ⟨p1.g6,k*2+1,none⟩ (.slice ad' (Zy (r1.as_ k).n (r1.as_ k).s x) cap')=w3:=⟨_,rfl⟩
 rw [hr2,hp2] at HRB HB2
 rw [hr2] at HV2 HV3 HV4
 rw [hr2,hp2,hw3] at X3 G3 RM3
 rw [hr2,hp2] at KP3
 clear RM1 HK1 HIX
 rw [hw3] at FW ⊢
 have HR2:=hid hr2
 clear hr2 hp2 hw3
 have W3:RcG w3 r2 p2:=G3.out
 have hgl:0<r2.an→p2.g6<w3.1.size:=fun h0=>Zr W3.at_ (j:=6) (by omega) (Or.inl ⟨h0,rfl⟩)
 have HROW:=hid (show ∀ wr,FrP (fun q=>q=B) w3 wr→∀ j,j<r2.an→p2.A.aa=some ⟨p2.g6,0,none⟩∧p2.g6<wr.1.size∧wr.cell? ⟨p2.g6,j*2,none⟩=some (.int .i64 (r2.as_ j).ix)∧wr.cell? ⟨p2.g6,j*2+1,none⟩=some (.slice (p2.AA j) (r2.as_ j).n (p2.AC j)) from fun wr hf j hj=>by
  have o:=W3.at_.o6.fr hf (fun q hq e=>HB2.out q ⟨6,by omega,hq⟩ e)
  obtain ⟨c,r,hat⟩:=o.row (by omega)
  obtain ⟨a0,a1⟩:=hat j hj
  exact ⟨o.addr (by omega),r.lt,by rw [r.cell _ (by omega),a0],by rw [r.cell _ (by omega),a1]⟩)
 have HSLS:=hid (show ∀ wr,FrP (fun q=>q=B) w3 wr→SlsIn wr 0 wr.1.size p2.A.da r2.dk.n r2.dk.s from fun wr hf=>(W3.at_.o1.frP hf (fun h0=>⟨fun e=>HB2.out p2.g1 ⟨1,by omega,h0,rfl⟩ e,Zr W3.at_ (j:=1) (by omega) ⟨h0,rfl⟩⟩)).isInG (fun h0=>ltl (Zr W3.at_ (j:=1) (by omega) ⟨h0,rfl⟩) hf.size))
 have HKN:=hid (KY r2 HV3.out.1 HV3.out.2.1)
 have BX3:=hid (show Bx w3 B (rcC (knR r2 (Xd r2 0)) p2.A) from X3.out)
 clear W3
 obtain ⟨q0,q1,q2,q3,q4,q5,q6,q7,q8,q9,q10,q11,q12,q13,q14,q15,q16,q17⟩:=Ze X3.out.cell
 go_wp2
 clear q0 q1 q2 q3 q4 q5 q6 q7 q8 q9 q10 q11 q12 q13 q14 q15 q16 q17
 go_loopw [55] (fun i wr=>∃ j:Nat,j≤r2.an∧i=.int .i64 j∧FrP (fun q=>q=B) w3 wr∧Bx wr B (rcC (knR r2 (Xd r2 j)) p2.A)) (fun i _=>r2.an-(intOf i).toNat)
 case atStart=>exact ⟨0,zle _,rfl,FrP.refl _ _,BX3.out⟩
 case round=>
  obtain ⟨j,hj,rfl,fx,bx⟩:=hrel
  have FX:=hid fx
  have BX:=hid bx
  clear fx bx BX3
  by_cases hjn:j<r2.an
  ·exact apVf0
  ·obtain rfl:j=r2.an:=by omega
   have F9:=hid FX.out
   have B9:=hid BX.out
   clear FX BX
   go_wp2
   have e8:=HR1.out
   subst e8
   exact apVf3
theorem took_R (r:Rc) (p:RcP) (B:Nat) (x ix:Int) (w:World) (hbx:Bx w B (rcC r p.A)) (hg:RcG w r p) (hB:∀ q,rbs p r q→q≠B) (hrm:AkRm w r p) (hAC:∀ i,i<r.an→(r.as_ i).ix=ix→p.AC i=(r.as_ i).n) (hv:EK r) (hix:0≤ix∧ix≤1000000) :
  Calls Tryz.prog 155 #[.pointer (some ⟨B,0,none⟩),.int .i64 x,.int .i64 ix] w fun e w'=>e=.returned (.tuple #[])∧∃ p',Bx w' B (rcC (Ya r x ix) p'.A)∧RcG w' (Ya r x ix) p'∧FrP (fun q=>q=B∨rb p r 6 q) w w'∧(∀ q,rbs p' (Ya r x ix) q→rbs p r q∨w.1.size≤q)∧AkRm w' (Ya r x ix) p'∧AkKeep r p (Ya r x ix) p' ix:=by
 cases hh:XN r.an (fun i=>(r.as_ i).ix) ix with
 | true=>exact Eh r p B x ix w hbx hg hB hrm hAC hv hix hh
 | false=>exact ER r p B x ix w hbx hg hB hrm hAC hv hix hh
theorem Gg {P:Prop} (h:P:=by
  have F9:FrP (fun q=>rb p r 6 q∨w.1.size≤q) w V2:=(((FrP.of_below HB0.out).trans2 (F3.out) (fun q hq e=>by
   rcases e with e|e
   ·exact Or.inr (by omega)
   ·exact Or.inl (G6I.out q hq e))).trans (FrP.of_below HB4.out)).trans2 FV (fun q _ e=>Or.inr (by omega))
  exact ⟨F9.os,F9.tape,F9.output,F9.size,fun q hq h=>F9.block q hq (fun e=>by
   rcases e with e|e
   ·exact h e
   ·omega)⟩):P:=h
theorem Gf {P:Prop} (h:P:=by
  exact ((G3.out.grow HB4.out).fr FV (fun q hq e=>by
   rcases HRB.out q hq with h|h
   ·have:=HLT.out q h;omega
   ·omega)).kn _):P:=h
theorem apVf5 {P:Prop} (h:P:=by
  rcases Nat.eq_zero_or_pos r.an with h0|h0
  ·exact ⟨0,0,zle _,⟨fun j hj=>absurd hj (by omega),fun j hj=>absurd hj (by omega)⟩⟩
  ·exact ⟨p.g6,p.g6+1,by have:=HLT.out p.g6 ⟨6,by omega,Or.inl ⟨h0,rfl⟩⟩;omega,src⟩):P:=h
set_option maxRecDepth 100000 in
theorem EY (r:Rc) (p:RcP) (x ix:Int) (w:World) (hg:RcG w r p) (hal:r.an≤p.A.ac) (hfl:∀ i,i<r.an→(r.as_ i).ix=ix→(r.as_ i).n≤p.AC i) (hv:EK r) :
  Calls Tryz.prog 86 #[rcV r p.A,.int .i64 ix,.int .i64 x] w fun e w'=>∃ p',e=.returned (rcV (Ya r x ix) p'.A)∧RcG w' (Ya r x ix) p'∧FrP (fun q=>rb p r 6 q) w w'∧(∀ q,rbs p' (Ya r x ix) q→rbs p r q∨w.1.size≤q)∧(Ya r x ix).an≤p'.A.ac∧AkKeep r p (Ya r x ix) p' ix:=by
 have HLT:=hid hg.at_.lt
 have HAL:=hid hal
 have HFL:=hid hfl
 have HV:=hid hv
 have han:=hv.an
 have hN:=Bx.new2 w (rcC r p.A) (rcL 0 0 false).toArray 38 38
 have hB0:Below w.1.size w ((w.alloc (.cells (rcC r p.A) 38)).alloc (.cells (rcL 0 0 false).toArray 38)):=(Zb _ _).alloc (by simp) _
 have HB0:=hid hB0
 have HG0:=hid (hg.grow hB0)
 have HX0:=hid hN.1
 have HZ:=hid hN.2
 have zW:w.1.size+1<((w.alloc (.cells (rcC r p.A) 38)).alloc (.cells (rcL 0 0 false).toArray 38)).1.size:=hN.2.lt
 clear hg hN hB0 hal hfl hv
 have main:∀ T,Ya r x ix=T→Calls Tryz.prog 86 #[rcV r p.A,.int .i64 ix,.int .i64 x] w fun e w'=>∃ p',e=.returned (rcV T p'.A)∧RcG w' T p'∧FrP (fun q=>rb p r 6 q) w w'∧(∀ q,rbs p' T q→rbs p r q∨w.1.size≤q)∧T.an≤p'.A.ac∧AkKeep r p T p' ix:=by
  intro T hT
  have HTT:=hid hT
  clear hT
  go_enter Tryz.func86,Tryz.ntmps86
  go_wp2
  obtain ⟨W,hW⟩:∃ W,((w.alloc (.cells (rcC r p.A) 38)).alloc (.cells (rcL 0 0 false).toArray 38))=W:=⟨_,rfl⟩
  rw [hW] at HB0 HG0 HX0 HZ zW ⊢
  clear hW
  have hS:=HX0.out.lt
  go_loopw [7] (fun i wr=>∃ k:Nat,k≤r.an∧i=.int .i64 k∧wr=W∧∀ j,j<k→(r.as_ j).ix<ix) (fun i _=>r.an-(intOf i).toNat)
  case atStart=>exact ⟨0,zle _,rfl,rfl,fun j hj=>absurd hj (nlz _)⟩
  case round=>
   obtain ⟨k,hk,rfl,rfl,hlt⟩:=hrel
   have H1:=hid hlt
   clear hlt
   have b16:=HX0.out.cell 16
   have b16a:wr.cell? ⟨w.1.size,16,none⟩=some (.slice p.A.aa r.an p.A.ac):=b16
   clear b16
   by_cases hkn:k<r.an
   ·obtain ⟨c0,rw0,hat0⟩:=HG0.out.at_.o6.row (by omega)
    obtain ⟨a0,_⟩:=hat0 k hkn
    have d0:=(rw0.cell (k*2) (by omega)).trans (congrArg some a0)
    have had:=HG0.out.at_.o6.addr (by omega)
    rw [had] at b16a
    clear rw0 hat0 a0
    by_cases hs:(r.as_ k).ix<ix
    ·have HN:=hid (show ∀ j,j<k+1→(r.as_ j).ix<ix from fun j hj=>by
      rcases Nat.lt_or_ge j k with h3|h3
      ·exact H1.out j h3
      ·obtain rfl:j=k:=by omega
       exact hs)
     generalize (r.as_ k).ix=dd at *
     go_wp2
     go_roundw
     case rel=>exact ⟨k+1,by omega,by go_num,by first|rfl|trivial,HN.out⟩
     case measure=>simp [intOf];omega
    ·have HK:=hid (Ks (s:=(fun i=>(r.as_ i).ix)) (x:=ix) hk H1.out (fun _=>by show ix≤(r.as_ k).ix;omega))
     by_cases he:(r.as_ k).ix=ix
     ·have HE:=hid (show XN r.an (fun i=>(r.as_ i).ix) ix=true by unfold XN;rw [←HK.out];simp [hkn,he])
      have HIX:=hid he
      have HK1:=hid (Ni r p k)
      have AL1:=hid HAL.out
      rw [he] at d0
      clear he hs
      have HT:Hid (T=UJ (Zw r k x)):=hid (by rw [←HTT.out];unfold Ya Jg;rw [HE.out,←HK.out];rfl)
      go_wp2
      have G1:=hid HG0.out
      have X1:=hid HX0.out
      have F1:Hid (FrP (fun q=>q=w.1.size) wr wr):=hid (FrP.refl _ _)
      have RB1:Hid (∀ q,rbs p r q→rbs p r q∨wr.1.size≤q):=hid fun q hq=>Or.inl hq
      have G61:Hid (p.g6<w.1.size→rb p r 6 p.g6):=hid fun _=>Or.inl ⟨by omega,rfl⟩
      have AC1:Hid ((r.as_ k).n≤p.AC k):=hid (HFL.out k hkn HIX.out)
      have FN1:Hid (∀ j,j<r.an→(r.as_ j).n≤10):=hid HV.out.fn
      have DK1:Hid (0≤r.dk.kn∧r.dk.kn≤r.dk.n∧r.dk.n≤60):=hid ⟨HV.out.k0,HV.out.k1,HV.out.dn⟩
      have HBq:Hid (∀ q,rbs p r q→q≠w.1.size):=hid fun q hq=>by have:=HLT.out q hq;omega
      obtain ⟨c0,rw0,hat0⟩:=G1.out.at_.o6.row (by omega)
      obtain ⟨_,a1⟩:=hat0 k hkn
      have hg6:=rw0.lt
      have d1':=rw0.cell (k*2+1) (by omega)
      rw [a1] at d1'
      have dfz:=rw0.free (k*2+1)
      have HO:=hid (G1.out.at_.o6.hold k hkn)
      have hlt9:0<(r.as_ k).n→p.Ab k<wr.1.size:=fun h=>G1.out.at_.o6.hlt k hkn (by omega)
      have b16':wr.cell? ⟨w.1.size,16,none⟩=some (.slice (some ⟨p.g6,0,none⟩) r.an p.A.ac):=by rw [←G1.out.at_.o6.addr (by omega)];exact X1.out.cell 16
      have zWx:=F1.out.size
      clear rw0 hat0 a1
      refine IY _ _ _ _ _ _ _ _ _ _ _ _ _ _ _ _ _ _ _ _ _ _ _ _ _ _ _ _ _ _ _ _ _ _ _ _ _ _ _ _ _ _ _ _ _ _ _ _ _ _ _ _ _ _ _ _ _ _ _ _ _ _ _ _ _ _ _ _ w.1.size p.g6 r.an p.A.ac k x (r.as_ k) (p.AA k) (p.AC k) (p.Ab k) wr b16' X1.out.lt hg6 d1' dfz hkn (by omega) (by have:=FN1.out k hkn;omega) AC1.out hlt9 HO.out _ ?_
      rintro t v3 X ⟨ad',cap',b',Y,rfl,k1,k2,k3,k4⟩
      obtain ⟨x3,g3,s3,f3⟩:=G1.out.ackPut X1.out HBq.out k4 hkn (cap':=cap') k1 k2 (by rcases k3 with ⟨h1,h2⟩|h1;exact Or.inl ⟨h1,by omega⟩;exact Or.inr h1)
      have g6z:p.g6<w.1.size∨wr.1.size≤p.g6:=by
       rcases RB1.out p.g6 ⟨6,by omega,Or.inl ⟨by omega,rfl⟩⟩ with h|h
       ·exact Or.inl (HLT.out _ h)
       ·exact Or.inr h
      have Z3:=hid ((HZ.out.frP F1.out (by omega)).frP f3 (by rcases g6z with h|h<;>omega))
      have F3:=hid ((F1.out.mono (fun q hq=>(Or.inl hq:q=w.1.size∨q=p.g6))).trans (f3.mono (fun q hq=>(Or.inr hq:q=w.1.size∨q=p.g6))))
      have HRB:=hid (show ∀ q,rbs (Yx p k ad' cap' b') (Zw r k x) q→rbs p r q∨wr.1.size≤q from fun q hq=>by rcases s3 q hq with h|h;exact RB1.out q h;exact Or.inr (by omega))
      have X3:Hid (Bx (Y.setCell ⟨p.g6,k*2+1,none⟩ (.slice ad' (Zy (r.as_ k).n (r.as_ k).s x) cap')) w.1.size (rcC (Zw r k x) (Yx p k ad' cap' b').A)):=hid x3
      have G3:Hid (RcG (Y.setCell ⟨p.g6,k*2+1,none⟩ (.slice ad' (Zy (r.as_ k).n (r.as_ k).s x) cap')) (Zw r k x) (Yx p k ad' cap' b')):=hid g3
      have HV3:Hid (0≤(Zw r k x).dk.kn∧(Zw r k x).dk.kn≤(Zw r k x).dk.n∧(Zw r k x).dk.n≤60):=hid DK1.out
      have HV2:Hid ((Zw r k x).an≤61):=hid (show r.an≤61 by omega)
      have HV4:=hid (Jl (x:=x) FN1.out hkn)
      have AL3:Hid ((Zw r k x).an≤(Yx p k ad' cap' b').A.ac):=hid AL1.out
      have KP3:Hid (AkKeep r p (Zw r k x) (Yx p k ad' cap' b') ix):=hid (AkKeep.put (Ni r p k) HIX.out)
      have G6I:Hid (∀ q,q<w.1.size→q=p.g6→rb p r 6 q):=hid fun q hq e=>by subst e;exact G61.out hq
      clear x3 g3 s3 f3 k1 k2 k3 k4 d1' dfz HO hlt9 b16'
      clear G1 X1 HBq AC1 FN1 F1 G61 RB1 DK1
      obtain ⟨r2,hr2⟩:∃ r2,Zw r k x=r2:=⟨_,rfl⟩
      obtain ⟨p2,hp2⟩:∃ p2,Yx p k ad' cap' b'=p2:=⟨_,rfl⟩
      obtain ⟨w3,hw3⟩:∃ w3,Y.setCell ⟨p.g6,k*2+1,none⟩ (.slice ad' (Zy (r.as_ k).n (r.as_ k).s x) cap')=w3:=⟨_,rfl⟩
      rw [hr2,hp2] at HRB AL3 KP3
      clear AL1 HK1 HIX
      rw [hr2] at HV2 HV3 HV4
      rw [hr2,hp2,hw3] at X3 G3
      rw [hw3] at F3 Z3 ⊢
      have HR2:=hid hr2
      clear hr2 hp2 hw3
      have AV:=hid (Jm r2 p2 w3 G3.out HV2.out HV4.out HV3.out.1 HV3.out.2.1 HV3.out.2.2)
      go_wp2_with (first|((with_reducible show wpList _ _ _ (⟨some 69,Op.load 38 _,_,_,_,_⟩::_) _ _);go_must (refine LD38 (rcC r2 p2.A).toList X3.out.cell ?_))|(go_at_call 131;go_must (refine AV.out.mono ?_;rintro e w4 ⟨rfl,hb4⟩;have Z4:=hid (Bx.below Z3.out hb4 Z3.out.lt);have HB4:=hid hb4;clear hb4))|((with_reducible show wpList _ _ _ (⟨none,Op.store 38 _ _,_,_,_,_⟩::_) _ _);go_must (refine Zd rfl 38 _ _ rfl (w.1.size+1) (rcC (UJ r2) p2.A).toList rfl rfl Z4.out rfl Tryz.sz38 (by simp [Value.oneCell']) ?_;intro V2 hbv hfv hsv;have HBV2:=hid hbv;have HFV2:=hid hfv;clear hbv hfv hsv)))
      have zz3:=F3.out.size
      have zz4:=HB4.out.size
      have FV:FrP (fun q=>q=w.1.size+1) w4 V2:=FrP.of_fr HFV2.out (fun q h1 h2=>by omega)
      have e9:=HR2.out
      subst e9
      have e7:=HT.out
      subst e7
      refine bodyPost_ret (v:=.agg (rcC (UJ (Zw r k x)) p2.A)) (Zv rfl _ _ (w.1.size+1) (rcC (UJ (Zw r k x)) p2.A).toList _ rfl (Holds.range (cs:=(rcC (UJ (Zw r k x)) p2.A).toList) HBV2.out.cell) Tryz.underlying38 rfl Tryz.sz38) rfl ⟨p2,rfl,?_,?_,?_,AL3.out,KP3.out⟩
      ·exact Gf
      ·exact Gg
      ·intro q hq
       rcases HRB.out q hq with h|h
       ·exact Or.inl h
       ·exact Or.inr (by omega)
     ·have HE:=hid (show XN r.an (fun i=>(r.as_ i).ix) ix=false by unfold XN;rw [←HK.out];simp [he])
      have hz:((r.as_ k).ix==ix)=false:=by simp;exact he
      have hz2:decide ((r.as_ k).ix<ix)=false:=decide_eq_false hs
      generalize hdd:(r.as_ k).ix=dd at d0 hz hz2 he
      have hz5:(dd != ix)=true:=by simp;exact he
      clear hs hdd
      have HT:Hid (T=UJ (Zw (ZC r k ix) k x)):=hid (by rw [←HTT.out];unfold Ya Jg;rw [HE.out,←HK.out];rfl)
      obtain ⟨c,src,hat⟩:=HG0.out.at_.o6.srcR
      obtain ⟨lo,hi,hhi,SR2⟩:∃ lo hi,hi≤wr.1.size∧SrcRow wr lo hi p.A.aa (r.an*2) c:=by
       exact apVf5
      have SRC:=hid SR2
      have HAT:=hid hat
      clear SR2 src hat
      go_wp2
      refine Ee _ _ _ _ _ _ _ _ _ _ _ _ _ _ _ _ _ _ _ _ _ _ _ _ _ _ _ _ _ _ _ _ _ _ _ _ _ _ _ _ _ _ _ _ _ _ _ _ _ _ _ _ _ _ _ _ _ _ _ _ _ _ _ _ _ _ _ _ w.1.size p.A.aa r.an p.A.ac k ix c lo hi wr (by omega) (by omega) HAL.out hhi SRC.out (HX0.out.cell 16) (HX0.out.free 16) HX0.out.lt _ ?_
      intro t0 v3 Y0 hrw hbY
      obtain ⟨ad3,g3,cp3,rfl,hrow,hge⟩:=hrw
      have hcp:0<cp3:=ltl (by omega) hrow.le
      have hrm:=hrow.room hcp
      have had:=hrow.addr hcp
      subst had
      have HROWF:Hid (RowF Y0 g3 ((r.an+1)*2) (Jc c k 2 (akD ix))):=hid ⟨hrm.lt,hrm.free,fun j hj=>by rw [hrow.cell j (by omega),KW _ _ _ _ _ _ (by omega) (by omega)]⟩
      have hg3:=hge hcp
      have HBY:=hid hbY
      have HLE:Hid (r.an+1≤cp3):=hid (by have:=hrow.le;omega)
      clear hrow hbY hge hrm
      rw [show k+1+(r.an-k)=r.an+1 by omega]
      obtain ⟨x2,g2,s2,f2⟩:=HG0.out.ackIns HX0.out (fun q hq=>by have:=HLT.out q hq;omega) HBY.out hk hg3 HAT.out ix cp3 HROWF.out
      have HK1:=hid (Ny r p k ix g3 cp3 hk)
      have HIX:Hid (((ZC r k ix).as_ k).ix=ix):=hid (by rw [show (ZC r k ix).as_ k=ak0 ix from Yf])
      have AL1:Hid ((ZC r k ix).an≤(JG p k g3 cp3).A.ac):=hid (show r.an+1≤cp3 from HLE.out)
      have hkn:k<(ZC r k ix).an:=Nat.lt_succ_of_le hk
      have han1:(ZC r k ix).an≤61:=by show r.an+1≤61;omega
      have hyk:(ZC r k ix).as_ k=ak0 ix:=Yf
      have AC1:Hid (((ZC r k ix).as_ k).n≤(JG p k g3 cp3).AC k):=hid (by rw [hyk];exact zle _)
      have FN1:Hid (∀ j,j<(ZC r k ix).an→((ZC r k ix).as_ j).n≤10):=hid fun j hj=>by
       exact apVf6
      have DK1:Hid (0≤(ZC r k ix).dk.kn∧(ZC r k ix).dk.kn≤(ZC r k ix).dk.n∧(ZC r k ix).dk.n≤60):=hid ⟨HV.out.k0,HV.out.k1,HV.out.dn⟩
      have G1:=hid g2
      have X1:=hid x2
      have RB1:=hid s2
      have F1:=hid f2
      have G61:Hid ((JG p k g3 cp3).g6<w.1.size→rb p r 6 (JG p k g3 cp3).g6):=hid fun h=>by have h':g3<w.1.size:=h;omega
      have HBq:Hid (∀ q,rbs (JG p k g3 cp3) (ZC r k ix) q→q≠w.1.size):=hid fun q hq=>by
       rcases RB1.out q hq with h|h
       ·have:=HLT.out q h;omega
       ·omega
      obtain ⟨r1,hr1⟩:∃ r1,ZC r k ix=r1:=⟨_,rfl⟩
      obtain ⟨p1,hp1⟩:∃ p1,JG p k g3 cp3=p1:=⟨_,rfl⟩
      obtain ⟨W1,hW1⟩:∃ W1,Y0.setCell ⟨w.1.size,16,none⟩ (.slice (some ⟨g3,0,none⟩) (r.an+1) cp3)=W1:=⟨_,rfl⟩
      rw [hr1] at hkn han1 FN1 DK1
      rw [hr1,hp1] at AC1 RB1 HBq HK1 AL1
      rw [hr1] at HIX
      rw [hp1] at G61
      rw [hr1,hp1,hW1] at G1 X1
      rw [hW1] at F1 ⊢
      have HR1:=hid hr1
      clear hr1 hp1 hW1 hyk x2 g2 s2 f2 HROWF HAT SRC hg3 hcp HBY
      go_wp2
      obtain ⟨c0,rw0,hat0⟩:=G1.out.at_.o6.row (by omega)
      obtain ⟨_,a1⟩:=hat0 k hkn
      have hg6:=rw0.lt
      have d1':=rw0.cell (k*2+1) (by omega)
      rw [a1] at d1'
      have dfz:=rw0.free (k*2+1)
      have HO:=hid (G1.out.at_.o6.hold k hkn)
      have hlt9:0<(r1.as_ k).n→p1.Ab k<W1.1.size:=fun h=>G1.out.at_.o6.hlt k hkn (by omega)
      have b16':W1.cell? ⟨w.1.size,16,none⟩=some (.slice (some ⟨p1.g6,0,none⟩) r1.an p1.A.ac):=by rw [←G1.out.at_.o6.addr (by omega)];exact X1.out.cell 16
      have zW1:=F1.out.size
      clear rw0 hat0 a1
      refine IY _ _ _ _ _ _ _ _ _ _ _ _ _ _ _ _ _ _ _ _ _ _ _ _ _ _ _ _ _ _ _ _ _ _ _ _ _ _ _ _ _ _ _ _ _ _ _ _ _ _ _ _ _ _ _ _ _ _ _ _ _ _ _ _ _ _ _ _ w.1.size p1.g6 r1.an p1.A.ac k x (r1.as_ k) (p1.AA k) (p1.AC k) (p1.Ab k) W1 b16' X1.out.lt hg6 d1' dfz hkn (by omega) (by have:=FN1.out k hkn;omega) AC1.out hlt9 HO.out _ ?_
      rintro t v3 X ⟨ad',cap',b',Y,rfl,k1,k2,k3,k4⟩
      obtain ⟨x3,g3,s3,f3⟩:=G1.out.ackPut X1.out HBq.out k4 hkn (cap':=cap') k1 k2 (by rcases k3 with ⟨h1,h2⟩|h1;exact Or.inl ⟨h1,by omega⟩;exact Or.inr h1)
      have g6z:p1.g6<w.1.size∨wr.1.size≤p1.g6:=by
       rcases RB1.out p1.g6 ⟨6,by omega,Or.inl ⟨by omega,rfl⟩⟩ with h|h
       ·exact Or.inl (HLT.out _ h)
       ·exact Or.inr h
      have Z3:=hid ((HZ.out.frP F1.out (by omega)).frP f3 (by rcases g6z with h|h<;>omega))
      have F3:=hid ((F1.out.mono (fun q hq=>(Or.inl hq:q=w.1.size∨q=p1.g6))).trans (f3.mono (fun q hq=>(Or.inr hq:q=w.1.size∨q=p1.g6))))
      have HRB:=hid (show ∀ q,rbs (Yx p1 k ad' cap' b') (Zw r1 k x) q→rbs p r q∨wr.1.size≤q from fun q hq=>by rcases s3 q hq with h|h;exact RB1.out q h;exact Or.inr (by omega))
      have X3:Hid (Bx (Y.setCell ⟨p1.g6,k*2+1,none⟩ (.slice ad' (Zy (r1.as_ k).n (r1.as_ k).s x) cap')) w.1.size (rcC (Zw r1 k x) (Yx p1 k ad' cap' b').A)):=hid x3
      have G3:Hid (RcG (Y.setCell ⟨p1.g6,k*2+1,none⟩ (.slice ad' (Zy (r1.as_ k).n (r1.as_ k).s x) cap')) (Zw r1 k x) (Yx p1 k ad' cap' b')):=hid g3
      have HV3:Hid (0≤(Zw r1 k x).dk.kn∧(Zw r1 k x).dk.kn≤(Zw r1 k x).dk.n∧(Zw r1 k x).dk.n≤60):=hid DK1.out
      have HV2:Hid ((Zw r1 k x).an≤61):=hid (show r1.an≤61 by omega)
      have HV4:=hid (Jl (x:=x) FN1.out hkn)
      have AL3:Hid ((Zw r1 k x).an≤(Yx p1 k ad' cap' b').A.ac):=hid AL1.out
      have KP3:Hid (AkKeep r p (Zw r1 k x) (Yx p1 k ad' cap' b') ix):=hid (AkKeep.put HK1.out HIX.out)
      have G6I:Hid (∀ q,q<w.1.size→q=p1.g6→rb p r 6 q):=hid fun q hq e=>by subst e;exact G61.out hq
      clear x3 g3 s3 f3 k1 k2 k3 k4 d1' dfz HO hlt9 b16'
      clear G1 X1 HBq AC1 FN1 F1 G61 RB1 DK1
      obtain ⟨r2,hr2⟩:∃ r2,Zw r1 k x=r2:=⟨_,rfl⟩
      obtain ⟨p2,hp2⟩:∃ p2,Yx p1 k ad' cap' b'=p2:=⟨_,rfl⟩
      obtain ⟨w3,hw3⟩:∃ w3,Y.setCell ⟨p1.g6,k*2+1,none⟩ (.slice ad' (Zy (r1.as_ k).n (r1.as_ k).s x) cap')=w3:=⟨_,rfl⟩
      rw [hr2,hp2] at HRB AL3 KP3
      clear AL1 HK1 HIX
      rw [hr2] at HV2 HV3 HV4
      rw [hr2,hp2,hw3] at X3 G3
      rw [hw3] at F3 Z3 ⊢
      have HR2:=hid hr2
      clear hr2 hp2 hw3
      have AV:=hid (Jm r2 p2 w3 G3.out HV2.out HV4.out HV3.out.1 HV3.out.2.1 HV3.out.2.2)
      go_wp2_with (first|((with_reducible show wpList _ _ _ (⟨some 69,Op.load 38 _,_,_,_,_⟩::_) _ _);go_must (refine LD38 (rcC r2 p2.A).toList X3.out.cell ?_))|(go_at_call 131;go_must (refine AV.out.mono ?_;rintro e w4 ⟨rfl,hb4⟩;have Z4:=hid (Bx.below Z3.out hb4 Z3.out.lt);have HB4:=hid hb4;clear hb4))|((with_reducible show wpList _ _ _ (⟨none,Op.store 38 _ _,_,_,_,_⟩::_) _ _);go_must (refine Zd rfl 38 _ _ rfl (w.1.size+1) (rcC (UJ r2) p2.A).toList rfl rfl Z4.out rfl Tryz.sz38 (by simp [Value.oneCell']) ?_;intro V2 hbv hfv hsv;have HBV2:=hid hbv;have HFV2:=hid hfv;clear hbv hfv hsv)))
      have zz3:=F3.out.size
      have zz4:=HB4.out.size
      have FV:FrP (fun q=>q=w.1.size+1) w4 V2:=FrP.of_fr HFV2.out (fun q h1 h2=>by omega)
      have e8:=HR1.out
      subst e8
      have e9:=HR2.out
      subst e9
      have e7:=HT.out
      subst e7
      refine bodyPost_ret (v:=.agg (rcC (UJ (Zw (ZC r k ix) k x)) p2.A)) (Zv rfl _ _ (w.1.size+1) (rcC (UJ (Zw (ZC r k ix) k x)) p2.A).toList _ rfl (Holds.range (cs:=(rcC (UJ (Zw (ZC r k ix) k x)) p2.A).toList) HBV2.out.cell) Tryz.underlying38 rfl Tryz.sz38) rfl ⟨p2,rfl,?_,?_,?_,AL3.out,KP3.out⟩
      ·exact Gf
      ·exact Gg
      ·intro q hq
       rcases HRB.out q hq with h|h
       ·exact Or.inl h
       ·exact Or.inr (by omega)
   ·obtain rfl:k=r.an:=by omega
    have HK:=hid (Ks (s:=(fun i=>(r.as_ i).ix)) (x:=ix) (lrf r.an) H1.out (fun h=>absurd h (Nat.lt_irrefl _)))
    have HE:=hid (show XN r.an (fun i=>(r.as_ i).ix) ix=false by unfold XN;rw [←HK.out];simp)
    have HT:Hid (T=UJ (Zw (ZC r r.an ix) r.an x)):=hid (by rw [←HTT.out];unfold Ya Jg;rw [HE.out,←HK.out];rfl)
    obtain ⟨c,src,hat⟩:=HG0.out.at_.o6.srcR
    obtain ⟨lo,hi,hhi,SR2⟩:∃ lo hi,hi≤wr.1.size∧SrcRow wr lo hi p.A.aa (r.an*2) c:=by
     exact apVf5
    have SRC:=hid SR2
    have HAT:=hid hat
    clear SR2 src hat
    go_wp2
    refine Ee _ _ _ _ _ _ _ _ _ _ _ _ _ _ _ _ _ _ _ _ _ _ _ _ _ _ _ _ _ _ _ _ _ _ _ _ _ _ _ _ _ _ _ _ _ _ _ _ _ _ _ _ _ _ _ _ _ _ _ _ _ _ _ _ _ _ _ _ w.1.size p.A.aa r.an p.A.ac r.an ix c lo hi wr (by omega) (by omega) HAL.out hhi SRC.out (HX0.out.cell 16) (HX0.out.free 16) HX0.out.lt _ ?_
    intro t0 v3 Y0 hrw hbY
    obtain ⟨ad3,g3,cp3,rfl,hrow,hge⟩:=hrw
    have hcp:0<cp3:=ltl (by omega) hrow.le
    have hrm:=hrow.room hcp
    have had:=hrow.addr hcp
    subst had
    have HROWF:Hid (RowF Y0 g3 ((r.an+1)*2) (Jc c r.an 2 (akD ix))):=hid ⟨hrm.lt,hrm.free,fun j hj=>by rw [hrow.cell j (by omega),KW _ _ _ _ _ _ (by omega) (by omega)]⟩
    have hg3:=hge hcp
    have HBY:=hid hbY
    have HLE:Hid (r.an+1≤cp3):=hid (by have:=hrow.le;omega)
    clear hrow hbY hge hrm
    rw [show r.an+1+(r.an-r.an)=r.an+1 by omega]
    obtain ⟨x2,g2,s2,f2⟩:=HG0.out.ackIns HX0.out (fun q hq=>by have:=HLT.out q hq;omega) HBY.out hk hg3 HAT.out ix cp3 HROWF.out
    have HK1:=hid (Ny r p r.an ix g3 cp3 hk)
    have HIX:Hid (((ZC r r.an ix).as_ r.an).ix=ix):=hid (by rw [show (ZC r r.an ix).as_ r.an=ak0 ix from Yf])
    have AL1:Hid ((ZC r r.an ix).an≤(JG p r.an g3 cp3).A.ac):=hid (show r.an+1≤cp3 from HLE.out)
    have hkn:r.an<(ZC r r.an ix).an:=Nat.lt_succ_of_le hk
    have han1:(ZC r r.an ix).an≤61:=by show r.an+1≤61;omega
    have hyk:(ZC r r.an ix).as_ r.an=ak0 ix:=Yf
    have AC1:Hid (((ZC r r.an ix).as_ r.an).n≤(JG p r.an g3 cp3).AC r.an):=hid (by rw [hyk];exact zle _)
    have FN1:Hid (∀ j,j<(ZC r r.an ix).an→((ZC r r.an ix).as_ j).n≤10):=hid fun j hj=>by
     have hj':j<r.an+1:=hj
     show (YF r.as_ r.an (ak0 ix) j).n≤10
     rcases Nat.lt_trichotomy j r.an with h1|h1|h1
     ·rw [YH h1];exact HV.out.fn j (by omega)
     ·subst h1;rw [Yf];exact zle _
     ·rw [YI h1];exact HV.out.fn (j-1) (by omega)
    have DK1:Hid (0≤(ZC r r.an ix).dk.kn∧(ZC r r.an ix).dk.kn≤(ZC r r.an ix).dk.n∧(ZC r r.an ix).dk.n≤60):=hid ⟨HV.out.k0,HV.out.k1,HV.out.dn⟩
    have G1:=hid g2
    have X1:=hid x2
    have RB1:=hid s2
    have F1:=hid f2
    have G61:Hid ((JG p r.an g3 cp3).g6<w.1.size→rb p r 6 (JG p r.an g3 cp3).g6):=hid fun h=>by have h':g3<w.1.size:=h;omega
    have HBq:Hid (∀ q,rbs (JG p r.an g3 cp3) (ZC r r.an ix) q→q≠w.1.size):=hid fun q hq=>by
     rcases RB1.out q hq with h|h
     ·have:=HLT.out q h;omega
     ·omega
    obtain ⟨r1,hr1⟩:∃ r1,ZC r r.an ix=r1:=⟨_,rfl⟩
    obtain ⟨p1,hp1⟩:∃ p1,JG p r.an g3 cp3=p1:=⟨_,rfl⟩
    obtain ⟨W1,hW1⟩:∃ W1,Y0.setCell ⟨w.1.size,16,none⟩ (.slice (some ⟨g3,0,none⟩) (r.an+1) cp3)=W1:=⟨_,rfl⟩
    rw [hr1] at hkn han1 FN1 DK1
    rw [hr1,hp1] at AC1 RB1 HBq HK1 AL1
    rw [hr1] at HIX
    rw [hp1] at G61
    rw [hr1,hp1,hW1] at G1 X1
    rw [hW1] at F1 ⊢
    have HR1:=hid hr1
    clear hr1 hp1 hW1 hyk x2 g2 s2 f2 HROWF HAT SRC hg3 hcp HBY
    go_wp2
    obtain ⟨c0,rw0,hat0⟩:=G1.out.at_.o6.row (by omega)
    obtain ⟨_,a1⟩:=hat0 r.an hkn
    have hg6:=rw0.lt
    have d1':=rw0.cell (r.an*2+1) (by omega)
    rw [a1] at d1'
    have dfz:=rw0.free (r.an*2+1)
    have HO:=hid (G1.out.at_.o6.hold r.an hkn)
    have hlt9:0<(r1.as_ r.an).n→p1.Ab r.an<W1.1.size:=fun h=>G1.out.at_.o6.hlt r.an hkn (by omega)
    have b16':W1.cell? ⟨w.1.size,16,none⟩=some (.slice (some ⟨p1.g6,0,none⟩) r1.an p1.A.ac):=by rw [←G1.out.at_.o6.addr (by omega)];exact X1.out.cell 16
    have zW1:=F1.out.size
    clear rw0 hat0 a1
    refine IY _ _ _ _ _ _ _ _ _ _ _ _ _ _ _ _ _ _ _ _ _ _ _ _ _ _ _ _ _ _ _ _ _ _ _ _ _ _ _ _ _ _ _ _ _ _ _ _ _ _ _ _ _ _ _ _ _ _ _ _ _ _ _ _ _ _ _ _ w.1.size p1.g6 r1.an p1.A.ac r.an x (r1.as_ r.an) (p1.AA r.an) (p1.AC r.an) (p1.Ab r.an) W1 b16' X1.out.lt hg6 d1' dfz hkn (by omega) (by have:=FN1.out r.an hkn;omega) AC1.out hlt9 HO.out _ ?_
    rintro t v3 X ⟨ad',cap',b',Y,rfl,k1,k2,k3,k4⟩
    obtain ⟨x3,g3,s3,f3⟩:=G1.out.ackPut X1.out HBq.out k4 hkn (cap':=cap') k1 k2 (by rcases k3 with ⟨h1,h2⟩|h1;exact Or.inl ⟨h1,by omega⟩;exact Or.inr h1)
    have g6z:p1.g6<w.1.size∨wr.1.size≤p1.g6:=by
     rcases RB1.out p1.g6 ⟨6,by omega,Or.inl ⟨by omega,rfl⟩⟩ with h|h
     ·exact Or.inl (HLT.out _ h)
     ·exact Or.inr h
    have Z3:=hid ((HZ.out.frP F1.out (by omega)).frP f3 (by rcases g6z with h|h<;>omega))
    have F3:=hid ((F1.out.mono (fun q hq=>(Or.inl hq:q=w.1.size∨q=p1.g6))).trans (f3.mono (fun q hq=>(Or.inr hq:q=w.1.size∨q=p1.g6))))
    have HRB:=hid (show ∀ q,rbs (Yx p1 r.an ad' cap' b') (Zw r1 r.an x) q→rbs p r q∨wr.1.size≤q from fun q hq=>by rcases s3 q hq with h|h;exact RB1.out q h;exact Or.inr (by omega))
    have X3:Hid (Bx (Y.setCell ⟨p1.g6,r.an*2+1,none⟩ (.slice ad' (Zy (r1.as_ r.an).n (r1.as_ r.an).s x) cap')) w.1.size (rcC (Zw r1 r.an x) (Yx p1 r.an ad' cap' b').A)):=hid x3
    have G3:Hid (RcG (Y.setCell ⟨p1.g6,r.an*2+1,none⟩ (.slice ad' (Zy (r1.as_ r.an).n (r1.as_ r.an).s x) cap')) (Zw r1 r.an x) (Yx p1 r.an ad' cap' b')):=hid g3
    have HV3:Hid (0≤(Zw r1 r.an x).dk.kn∧(Zw r1 r.an x).dk.kn≤(Zw r1 r.an x).dk.n∧(Zw r1 r.an x).dk.n≤60):=hid DK1.out
    have HV2:Hid ((Zw r1 r.an x).an≤61):=hid (show r1.an≤61 by omega)
    have HV4:=hid (Jl (x:=x) FN1.out hkn)
    have AL3:Hid ((Zw r1 r.an x).an≤(Yx p1 r.an ad' cap' b').A.ac):=hid AL1.out
    have KP3:Hid (AkKeep r p (Zw r1 r.an x) (Yx p1 r.an ad' cap' b') ix):=hid (AkKeep.put HK1.out HIX.out)
    have G6I:Hid (∀ q,q<w.1.size→q=p1.g6→rb p r 6 q):=hid fun q hq e=>by subst e;exact G61.out hq
    clear x3 g3 s3 f3 k1 k2 k3 k4 d1' dfz HO hlt9 b16'
    clear G1 X1 HBq AC1 FN1 F1 G61 RB1 DK1
    obtain ⟨r2,hr2⟩:∃ r2,Zw r1 r.an x=r2:=⟨_,rfl⟩
    obtain ⟨p2,hp2⟩:∃ p2,Yx p1 r.an ad' cap' b'=p2:=⟨_,rfl⟩
    obtain ⟨w3,hw3⟩:∃ w3,Y.setCell ⟨p1.g6,r.an*2+1,none⟩ (.slice ad' (Zy (r1.as_ r.an).n (r1.as_ r.an).s x) cap')=w3:=⟨_,rfl⟩
    rw [hr2,hp2] at HRB AL3 KP3
    clear AL1 HK1 HIX
    rw [hr2] at HV2 HV3 HV4
    rw [hr2,hp2,hw3] at X3 G3
    rw [hw3] at F3 Z3 ⊢
    have HR2:=hid hr2
    clear hr2 hp2 hw3
    have AV:=hid (Jm r2 p2 w3 G3.out HV2.out HV4.out HV3.out.1 HV3.out.2.1 HV3.out.2.2)
    go_wp2_with (first|((with_reducible show wpList _ _ _ (⟨some 69,Op.load 38 _,_,_,_,_⟩::_) _ _);go_must (refine LD38 (rcC r2 p2.A).toList X3.out.cell ?_))|(go_at_call 131;go_must (refine AV.out.mono ?_;rintro e w4 ⟨rfl,hb4⟩;have Z4:=hid (Bx.below Z3.out hb4 Z3.out.lt);have HB4:=hid hb4;clear hb4))|((with_reducible show wpList _ _ _ (⟨none,Op.store 38 _ _,_,_,_,_⟩::_) _ _);go_must (refine Zd rfl 38 _ _ rfl (w.1.size+1) (rcC (UJ r2) p2.A).toList rfl rfl Z4.out rfl Tryz.sz38 (by simp [Value.oneCell']) ?_;intro V2 hbv hfv hsv;have HBV2:=hid hbv;have HFV2:=hid hfv;clear hbv hfv hsv)))
    have zz3:=F3.out.size
    have zz4:=HB4.out.size
    have FV:FrP (fun q=>q=w.1.size+1) w4 V2:=FrP.of_fr HFV2.out (fun q h1 h2=>by omega)
    have e8:=HR1.out
    subst e8
    have e9:=HR2.out
    subst e9
    have e7:=HT.out
    subst e7
    refine bodyPost_ret (v:=.agg (rcC (UJ (Zw (ZC r r.an ix) r.an x)) p2.A)) (Zv rfl _ _ (w.1.size+1) (rcC (UJ (Zw (ZC r r.an ix) r.an x)) p2.A).toList _ rfl (Holds.range (cs:=(rcC (UJ (Zw (ZC r r.an ix) r.an x)) p2.A).toList) HBV2.out.cell) Tryz.underlying38 rfl Tryz.sz38) rfl ⟨p2,rfl,?_,?_,?_,AL3.out,KP3.out⟩
    ·exact Gf
    ·exact Gg
    ·intro q hq
     rcases HRB.out q hq with h|h
     ·exact Or.inl h
     ·exact Or.inr (by omega)
 exact main _ rfl
end Go.Proofs.YtokkbdlofbdljaaGreat
