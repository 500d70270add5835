import Derived.Test.YtokkbdlofbdljaaGreatW
namespace Go.Proofs.YtokkbdlofbdljaaGreat
open Go.RowKit
set_option maxRecDepth 100000
set_option maxHeartbeats 8000000
theorem ivT {P:Prop} (h:P:=by
  have HF:=hid hf
  obtain ⟨⟨ga,ea⟩,⟨gb,eb⟩,⟨gc,ec⟩,cs,cd,cw⟩:=hn
  have hcs:r.sf.n≤A.sc:=by omega
  have hcd:r.dk.n≤A.dc:=by omega
  have hcw:r.wn≤A.wc:=by omega
  have HC:=hid hc
  have HEA:=hid ea
  have HEB:=hid eb
  have HEC:=hid ec
  clear hf hc ea eb ec cs cd cw
  have mark:Nat:=0
  go_enter Tryz.func47,Tryz.ntmps47
  go_wp2_with (first|((with_reducible show wpList _ _ _ (⟨some 3,_,_,_,_,_⟩::_) _ _);clear mark;have hB0:=Zb w (.cells (rcC r A) 38);have H0:=Zt w (rcC r A) 38;have hz0:w.1.size<(w.alloc (.cells (rcC r A) 38)).1.size:=(by simp);generalize w.alloc (.cells (rcC r A) 38)=W at *;obtain ⟨p0,p1,p2,p3,p4,p5,p6,p7,p8,p9,p10,p11,p12,p13,p14,p15,p16,p17⟩:=Ze H0;rw [HLD.out] at p11;rw [HTR.out] at p12;(try rw [HUP.out] at p2)))
  all_goals
   have hne:Nonempty (GW W):=⟨⟨W,br _ _⟩⟩
   have q0:=Zc p0 hz0
   have q1:=Zc p1 hz0
   have q2:=Zc p2 hz0
   have q3:=Zc p3 hz0
   have q4:=Zc p4 hz0
   have q5:=Zc p5 hz0
   have q6:=Zc p6 hz0
   have q7:=Zc p7 hz0
   have q8:=Zc p8 hz0
   have q9:=Zc p9 hz0
   have q10:=Zc p10 hz0
   have q11:=Zc p11 hz0
   have q12:=Zc p12 hz0
   have q13:=Zc p13 hz0
   have q14:=Zc p14 hz0
   have q15:=Zc p15 hz0
   have q16:=Zc p16 hz0
   have q17:=Zc p17 hz0
   clear p0 p1 p2 p3 p4 p5 p6 p7 p8 p9 p10 p11 p12 p13 p14 p15 p16 p17
   have hw:∀ u:GW W,hi≤u.val.1.size:=fun u=>ltr hhi (ltr hB0.size u.prop.size)
   have HI:∀ u:GW W,RcIn u.val lo hi r A:=fun u=>HC.out.below (hB0.trans (u.prop.mono hB0.size)) hhi
   have hs:∀ u:GW W,SlsIn u.val lo hi (some ⟨ga,0,none⟩) r.sf.n r.sf.s:=fun u=>HEA.out▸(HI u).sf
   have hd:∀ u:GW W,SlsIn u.val lo hi (some ⟨gb,0,none⟩) r.dk.n r.dk.s:=fun u=>HEB.out▸(HI u).dk
   have hws:∀ u:GW W,StrsIn u.val lo hi (some ⟨gc,0,none⟩) r.wn r.ws:=fun u=>HEC.out▸(HI u).ws
   have hD1:∀ u:GW W,Calls Tryz.prog 90 #[dkV r.sf A.sa A.sc] u.val fun e w'=>e=.returned (.bool (dkB r.sf))∧Below u.val.1.size u.val w':=fun u=>by
    rw [HEA.out];exact Xp r.sf ga 0 A.sc _ lo hi (hw _) HF.out.sf hcs (hs _)
   have hD2:∀ u:GW W,Calls Tryz.prog 90 #[dkV r.dk A.da A.dc] u.val fun e w'=>e=.returned (.bool (dkB r.dk))∧Below u.val.1.size u.val w':=fun u=>by
    rw [HEB.out];exact Xp r.dk gb 0 A.dc _ lo hi (hw _) HF.out.dk hcd (hd _)
   have hD3:∀ u:GW W,Calls Tryz.prog 92 #[.slice A.wa r.wn A.wc] u.val fun e w'=>e=.returned (.bool (ZA r.wn r.ws))∧Below u.val.1.size u.val w':=fun u=>by
    rw [HEC.out];exact YZ (KZ r.wn r.ws gc 0 A.wc _ lo hi HF.out.wn hcw HF.out.ws (hws _))
   have hm1:=meth114
   have hm2:=meth115
   have hm3:=meth116
   first|(have hRole:∀ u:GW W,Calls Tryz.prog 97 #[rcV r A] u.val fun e w'=>e=.returned (.iface 143 (.agg #[]))∧Below u.val.1.size u.val w':=fun u=>(JX r A u.val).mono (fun _ _ h=>by simpa [HLD.out,HTR.out] using h))|(have hRole:∀ u:GW W,Calls Tryz.prog 97 #[rcV r A] u.val fun e w'=>e=.returned (.iface 144 (.agg #[]))∧Below u.val.1.size u.val w':=fun u=>(JX r A u.val).mono (fun _ _ h=>by simpa [HLD.out,HTR.out] using h))|(have hRole:∀ u:GW W,Calls Tryz.prog 97 #[rcV r A] u.val fun e w'=>e=.returned (.iface 145 (.agg #[]))∧Below u.val.1.size u.val w':=fun u=>(JX r A u.val).mono (fun _ _ h=>by simpa [HLD.out,HTR.out] using h))
   refine Zf (by kernel_rfl) (by kernel_rfl) ?_
   have HRG:Hid (∀ w',(∃ u:GW W,w'=u.val)→w'.rangeAt w.1.size 0 (rcC r A).toList):=hid (fun w' ⟨u,hu⟩=>by rw [hu];exact Holds.range (cs:=(rcC r A).toList) (H0.below u.prop hz0))
   clear H0
   repeat (first|((with_reducible show wpQuiet _ _ _ _ (⟨_,Op.load 38 _,_,_,_,_⟩::_) _);refine Xy ?hw 38 _ rfl w.1.size rfl (rcC r A).toList _ HRG.out Tryz.underlying38 rfl Tryz.sz38 (fun K hK=>?_);(case hw=>(go_simp;done));go_simp;refine hK _ ?_;clear hK K)|(go_big_quiet_step ((first|(go_at_call 89;go_must (exact Zp (YZ (J5 _ _ _))))|(go_at_call 90;first|(with_reducible exact Zp (hD1 _))|(with_reducible exact Zp (hD2 _)))|(go_at_call 91;go_must (exact Zp (Kb r A _ lo hi (hw _) HF.out ((HI _).hs))))|(go_at_call 92;go_must (with_reducible exact Zp (hD3 _)))|(go_at_call 93;go_must (exact Zp (YZ (Zu _ _ _ _))))|(go_at_call 94;go_must (exact Zp (Us (XC r.of r.yn r.ys A.ya A.yc _ lo hi (by have:=HF.out.yn;omega) ((HI _).ys)))))|(go_at_call 95;go_must (exact Zp (XA r.bn r.bs A.ba A.bc _ lo hi (hw _) HF.out.bn HF.out.bs ((HI _).bs))))|(go_at_call 96;go_must (exact Zp (acks_any r.of r.an r.as_ A.aa A.ac _ lo hi (hw _) (by have:=HF.out.an;omega) (fun i h=>by have:=(HF.out.as_ i h).n;omega) ((HI _).as_))))|(go_at_call 97;go_must (exact Zp (hRole _)))|(go_at_call 203;go_must (exact Zp (Kf r A _)))|(go_at_call 205;go_must (exact Zp (KM r A _)))|(go_at_call 206;go_must (exact Zp (JH r A _)))|(go_at_call 98;go_must (exact Zp (Ul r A _))))))|(refine wpQuiet_step (fun K hK=>?_);go_simp;refine hK _ ?_;clear hK K))
   refine wpQuiet_nil ?_
   rintro w2 ⟨u,hu⟩
   have hw2:Below W.1.size W w2:=hu▸u.prop
   clear hu u
   go_wp2
   go_ret
   exact ⟨rfl,hB0.trans (hw2.mono hB0.size)⟩):P:=h
theorem iv9tf (r:Rc) (A:RcA) (w:World) (lo hi:Nat) (hhi:hi≤w.1.size) (hf:ZR r) (hn:ZX r A) (hc:RcIn w lo hi r A) (HLD:Hid (r.ld=true)) (HTR:Hid (r.tr=false)) (h0:Yc r.num r.of=true) (h1:dkB r.sf=true) (h2:dkB r.dk=true) (h3:ZZ r=true) (h4:ZA r.wn r.ws=true) (h5:inB r.hd 0 1000000=true) (h6:numB r.of r.yn r.ys=true) (h7:slsB r.bn r.bs=true) (h8:aksB r.of r.an r.as_=true) (h9:J4 r=false) :
  Calls Tryz.prog 47 #[rcV r A] w fun e w'=>e=.returned (.bool false)∧Below w.1.size w w':=ivT
theorem iv10tf (r:Rc) (A:RcA) (w:World) (lo hi:Nat) (hhi:hi≤w.1.size) (hf:ZR r) (hn:ZX r A) (hc:RcIn w lo hi r A) (HLD:Hid (r.ld=true)) (HTR:Hid (r.tr=false)) (h0:Yc r.num r.of=true) (h1:dkB r.sf=true) (h2:dkB r.dk=true) (h3:ZZ r=true) (h4:ZA r.wn r.ws=true) (h5:inB r.hd 0 1000000=true) (h6:numB r.of r.yn r.ys=true) (h7:slsB r.bn r.bs=true) (h8:aksB r.of r.an r.as_=true) (h9:J4 r=true) (HUP:Hid (r.up=false)) (h10:YD r=false) :
  Calls Tryz.prog 47 #[rcV r A] w fun e w'=>e=.returned (.bool false)∧Below w.1.size w w':=ivT
theorem iv11utf (r:Rc) (A:RcA) (w:World) (lo hi:Nat) (hhi:hi≤w.1.size) (hf:ZR r) (hn:ZX r A) (hc:RcIn w lo hi r A) (HLD:Hid (r.ld=true)) (HTR:Hid (r.tr=false)) (h0:Yc r.num r.of=true) (h1:dkB r.sf=true) (h2:dkB r.dk=true) (h3:ZZ r=true) (h4:ZA r.wn r.ws=true) (h5:inB r.hd 0 1000000=true) (h6:numB r.of r.yn r.ys=true) (h7:slsB r.bn r.bs=true) (h8:aksB r.of r.an r.as_=true) (h9:J4 r=true) (HUP:Hid (r.up=true)) :
  Calls Tryz.prog 47 #[rcV r A] w fun e w'=>e=.returned (.bool true)∧Below w.1.size w w':=ivT
theorem iv11btf (r:Rc) (A:RcA) (w:World) (lo hi:Nat) (hhi:hi≤w.1.size) (hf:ZR r) (hn:ZX r A) (hc:RcIn w lo hi r A) (HLD:Hid (r.ld=true)) (HTR:Hid (r.tr=false)) (h0:Yc r.num r.of=true) (h1:dkB r.sf=true) (h2:dkB r.dk=true) (h3:ZZ r=true) (h4:ZA r.wn r.ws=true) (h5:inB r.hd 0 1000000=true) (h6:numB r.of r.yn r.ys=true) (h7:slsB r.bn r.bs=true) (h8:aksB r.of r.an r.as_=true) (h9:J4 r=true) (HUP:Hid (r.up=false)) (h10:YD r=true) :
  Calls Tryz.prog 47 #[rcV r A] w fun e w'=>e=.returned (.bool true)∧Below w.1.size w w':=ivT
end Go.Proofs.YtokkbdlofbdljaaGreat
