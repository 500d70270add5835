import Derived.Test.YtokkbdlofbdljaaGreatYsh
namespace Go.Proofs.YtokkbdlofbdljaaGreat
open Go.RowKit
set_option maxHeartbeats 8000000
theorem Gb {P:Prop} (h:P:=by
  go_enter Tryz.func30,Tryz.ntmps30
  go_wp2_with (first|((with_reducible show wpList _ _ _ (⟨some 4,_,_,_,_,_⟩::_) _ _);clear mark;have hB0:=Zb w (.cells (rcC (setR r0 L T U) A) 38);have H0:=Zt w (rcC (setR r0 L T U) A) 38;have hz0:w.1.size<(w.alloc (.cells (rcC (setR r0 L T U) A) 38)).1.size:=(by simp);generalize w.alloc (.cells (rcC (setR r0 L T U) A) 38)=W at *;obtain ⟨p0,p1,p2,p3,p4,p5,p6,p7,p8,p9,ze,zc,za,zd,zi,zj,zg,zh⟩:=Ze H0)|(go_at_call 75;refine (ZI _ _ _ _).mono ?_;rintro e w0' ⟨rfl,hq⟩;replace hq:=hq.symm;subst hq;first|rw [h0]|rw [h1]|rw [h6]|rw [h10]))
  go_ret
  exact ⟨Zh (by rw [HR.out];simp),hB0⟩):P:=h
theorem IP {P:Prop} (h:P:=by
  go_wp2_with (first|(go_at_call 75;refine (ZI _ _ _ _).mono ?_;rintro e w0' ⟨rfl,hq⟩;replace hq:=hq.symm;subst hq;first|rw [h0]|rw [h1]|rw [h6]|rw [h10]))
  go_ret
  exact ⟨Zh (by rw [HR.out,HRL.out,HZ.out];simp),hBw7⟩):P:=h
theorem IN {P:Prop} (h:P:=by
  go_wp2_with (first|(go_at_call 75;refine (ZI _ _ _ _).mono ?_;rintro e w0' ⟨rfl,hq⟩;replace hq:=hq.symm;subst hq;first|rw [h0]|rw [h1]|rw [h6]|rw [h10]))
  go_ret
  exact ⟨Zh (by rw [HR.out,HRL.out];simp),hBw7⟩):P:=h
theorem Ga {P:Prop} (h:P:=by
  go_wp2
  refine Zf (by kernel_rfl) (by kernel_rfl) ?_
  repeat (first|(go_big_quiet_step ((go_at_call 66;go_must (exact Zp (Xf ((setR r0 L T U).hs k) (setR r0 L T U).of ah ch _ lo hi (hw1 _) hfk (hs2 _))))))|(refine wpQuiet_step (fun K hK=>?_);go_simp;refine hK _ ?_;clear hK K))
  refine wpQuiet_nil ?_
  rintro w5 ⟨u,hu⟩
  have hw5:Below wr.1.size wr w5:=hu▸u.prop
  clear hu u
  go_wp2
  go_ret
  exact ⟨Zh (by rw [HR.out,HX.out];simp),HB.out.trans (hw5.mono HB.out.size)⟩):P:=h
theorem FZ {P:Prop} (h:P:=by
  go_wp2_with (first|(go_at_call 75;refine (ZI _ _ _ _).mono ?_;rintro e w0' ⟨rfl,hq⟩;replace hq:=hq.symm;subst hq;first|rw [h0]|rw [h1]|rw [h6]|rw [h10]))
  go_ret
  exact ⟨Zh (by rw [HR.out,HRL.out,HZ.out,HX.out];simp),hBw7⟩):P:=h
set_option maxRecDepth 100000 in
theorem sv_all (r0:Rc) (L T U:Bool) (A:RcA) (w:World) (lo hi:Nat) (hhi:hi≤w.1.size) (hf:ZR (setR r0 L T U)) (hc:RcIn w lo hi (setR r0 L T U) A) :
  Calls Tryz.prog 30 #[rcV (setR r0 L T U) A] w fun e w'=>e=.returned (.bool (rcB (setR r0 L T U)))∧Below w.1.size w w':=by
 have HF:=hid hf
 have HC:=hid hc
 have y1:=hf.yn
 have y2:=hf.bn
 have y3:=hf.an
 have y4:=hf.hn
 have y5:=hf.wn
 clear hf hc
 have mark:Nat:=0
 obtain ⟨b0,h0⟩:∃ b,inB (setR r0 L T U).of 1 5=b:=⟨_,rfl⟩
 obtain ⟨b1,h1⟩:∃ b,inB (setR r0 L T U).num 1 (setR r0 L T U).of=b:=⟨_,rfl⟩
 obtain ⟨b2,h2⟩:∃ b,dkB (setR r0 L T U).sf=b:=⟨_,rfl⟩
 obtain ⟨b3,h3⟩:∃ b,dkB (setR r0 L T U).dk=b:=⟨_,rfl⟩
 obtain ⟨b5,h5⟩:∃ b,ZA (setR r0 L T U).wn (setR r0 L T U).ws=b:=⟨_,rfl⟩
 obtain ⟨b6,h6⟩:∃ b,inB (setR r0 L T U).hd 0 1000000=b:=⟨_,rfl⟩
 obtain ⟨b7,h7⟩:∃ b,numB (setR r0 L T U).of (setR r0 L T U).yn (setR r0 L T U).ys=b:=⟨_,rfl⟩
 obtain ⟨b8,h8⟩:∃ b,slsB (setR r0 L T U).bn (setR r0 L T U).bs=b:=⟨_,rfl⟩
 obtain ⟨b9,h9⟩:∃ b,aksB (setR r0 L T U).of (setR r0 L T U).an (setR r0 L T U).as_=b:=⟨_,rfl⟩
 obtain ⟨b10,h10⟩:∃ b,inB (setR r0 L T U).bal 1 (setR r0 L T U).dk.pr=b:=⟨_,rfl⟩
 have HR:=hid (show rcB (setR r0 L T U)=(!(L&&T)&&((b0&&b1)&&(b2&&(b3&&(ZZ (setR r0 L T U)&&(b5&&(b6&&(b7&&(b8&&(b9&&(Xj (setR r0 L T U)&&(U||YD (setR r0 L T U))))))))))))) by rw [←h0,←h1,←h2,←h3,←h5,←h6,←h7,←h8,←h9];rfl)
 generalize rcB (setR r0 L T U)=RB at *
 cases b0
 ·exact Gb
 cases b1
 ·exact Gb
 go_enter Tryz.func30,Tryz.ntmps30
 go_wp2_with (first|((with_reducible show wpList _ _ _ (⟨some 4,_,_,_,_,_⟩::_) _ _);clear mark;have hB0:=Zb w (.cells (rcC (setR r0 L T U) A) 38);have H0:=Zt w (rcC (setR r0 L T U) A) 38;have hz0:w.1.size<(w.alloc (.cells (rcC (setR r0 L T U) A) 38)).1.size:=(by simp);generalize w.alloc (.cells (rcC (setR r0 L T U) A) 38)=W at *;obtain ⟨p0,p1,p2,p3,p4,p5,p6,p7,p8,p9,ze,zc,za,zd,zi,zj,zg,zh⟩:=Ze H0)|(go_at_call 75;refine (ZI _ _ _ _).mono ?_;rintro e w0' ⟨rfl,hq⟩;replace hq:=hq.symm;subst hq;first|rw [h0]|rw [h1]|rw [h6]|rw [h10]))
 refine (JS (setR r0 L T U).sf A.sa A.sc W lo hi (ltr hhi hB0.size) HF.out.sf (HC.out.below hB0 hhi).sf).mono ?_
 rintro e w1 ⟨rfl,hbw1⟩
 rw [h2]
 clear p0 p1 p2 p3 p4 p5 p6 p7 p8 p9 ze zc za zd zi zj zg zh
 have hBw1:Below w.1.size w w1:=hB0.trans (hbw1.mono hB0.size)
 have Hw1:Holds w1 w.1.size (rcC (setR r0 L T U) A):=H0.below hbw1 hz0
 have hzw1:w.1.size<w1.1.size:=ltl hz0 hbw1.size
 clear hbw1 H0
 obtain ⟨p0,p1,p2,p3,p4,p5,p6,p7,p8,p9,ze,zc,za,zd,zi,zj,zg,zh⟩:=Ze Hw1
 cases b2
 ·go_wp2
  go_ret
  exact ⟨Zh (by rw [HR.out];simp),hBw1⟩
 go_wp2_with fail
 refine (JS (setR r0 L T U).dk A.da A.dc w1 lo hi (ltr hhi hBw1.size) HF.out.dk (HC.out.below hBw1 hhi).dk).mono ?_
 rintro e w2 ⟨rfl,hbw2⟩
 rw [h3]
 clear p0 p1 p2 p3 p4 p5 p6 p7 p8 p9 ze zc za zd zi zj zg zh
 have hBw2:Below w.1.size w w2:=hBw1.trans (hbw2.mono hBw1.size)
 have Hw2:Holds w2 w.1.size (rcC (setR r0 L T U) A):=Hw1.below hbw2 hzw1
 have hzw2:w.1.size<w2.1.size:=ltl hzw1 hbw2.size
 clear hbw2 Hw1
 obtain ⟨p0,p1,p2,p3,p4,p5,p6,p7,p8,p9,ze,zc,za,zd,zi,zj,zg,zh⟩:=Ze Hw2
 cases b3
 ·go_wp2
  go_ret
  exact ⟨Zh (by rw [HR.out];simp),hBw2⟩
 by_cases h4:(setR r0 L T U).hn≤400
 rotate_left
 ·have HX:=hid (show ZZ (setR r0 L T U)=false by simp [ZZ,h4])
  go_wp2
  go_ret
  exact ⟨Zh (by rw [HR.out,HX.out];simp),hBw2⟩
 go_wp2_with fail
 refine (wishesS_any (setR r0 L T U).wn (setR r0 L T U).ws A.wa A.wc w2 lo hi HF.out.wn HF.out.ws (HC.out.below hBw2 hhi).ws).mono ?_
 rintro e w3 ⟨rfl,q3,he3⟩
 have hbw3:Below w2.1.size w2 w3:=by rw [he3];exact Yt _ _
 rw [h5]
 clear p0 p1 p2 p3 p4 p5 p6 p7 p8 p9 ze zc za zd zi zj zg zh he3
 have hBw3:Below w.1.size w w3:=hBw2.trans (hbw3.mono hBw2.size)
 have Hw3:Holds w3 w.1.size (rcC (setR r0 L T U) A):=Hw2.below hbw3 hzw2
 have hzw3:w.1.size<w3.1.size:=ltl hzw2 hbw3.size
 clear hbw3 Hw2
 obtain ⟨p0,p1,p2,p3,p4,p5,p6,p7,p8,p9,ze,zc,za,zd,zi,zj,zg,zh⟩:=Ze Hw3
 cases b5
 ·go_wp2
  go_ret
  exact ⟨Zh (by rw [HR.out];simp),hBw3⟩
 cases b6
 ·go_wp2_with (first|(go_at_call 75;refine (ZI _ _ _ _).mono ?_;rintro e w0' ⟨rfl,hq⟩;replace hq:=hq.symm;subst hq;first|rw [h0]|rw [h1]|rw [h6]|rw [h10]))
  go_ret
  exact ⟨Zh (by rw [HR.out];simp),hBw3⟩
 go_wp2_with (first|(go_at_call 75;refine (ZI _ _ _ _).mono ?_;rintro e w0' ⟨rfl,hq⟩;replace hq:=hq.symm;subst hq;first|rw [h0]|rw [h1]|rw [h6]|rw [h10]))
 clear p0 p1 p2 p3 p4 p5 p6 p7 p8 p9 ze zc za zd zi zj zg zh
 go_loopw [3] (fun i wr=>∃ k:Nat,k≤(setR r0 L T U).hn∧i=.int .i64 k∧Below w3.1.size w3 wr∧Hid (∀ j,j<k→oneB (setR r0 L T U) j=true)) (fun i _=>(setR r0 L T U).hn-(intOf i).toNat)
 case atStart=>exact ⟨0,zle _,rfl,br _ _,fun j hj=>absurd hj (nlz _)⟩
 case round=>
  obtain ⟨k,hk,rfl,hb,HA⟩:=hrel
  have HB:=hid (hBw3.trans (hb.mono hBw3.size))
  obtain ⟨p0,p1,p2,p3,p4,p5,p6,p7,p8,p9,ze,zc,za,zd,zi,zj,zg,zh⟩:=Ze (Hw3.below hb hzw3)
  have hww:w.1.size<wr.1.size:=ltl hzw3 hb.size
  by_cases hkn:k<(setR r0 L T U).hn
  ·obtain ⟨b,off,ah,ch,e,hlo,hbh,hcx,hs⟩:=HC.out.hs k hkn
   have hs1:=hs.below HB.out hhi
   obtain ⟨d0,d1,d2,d3,d4,d5,d6,d7⟩:=hcx.below HB.out (by omega)
   have hfk:=HF.out.hs k hkn
   have hbw:b<wr.1.size:=by have:=HB.out.size;omega
   have hw1:∀ u:GW wr,hi≤u.val.1.size:=fun u=>ltr hhi (ltr HB.out.size u.prop.size)
   have hs2:∀ u:GW wr,SlsIn u.val lo hi ah ((setR r0 L T U).hs k).n ((setR r0 L T U).hs k).s:=fun u=>hs1.below u.prop (ltr hhi HB.out.size)
   rw [e] at p9
   have hne:Nonempty (GW wr):=⟨⟨wr,br _ _⟩⟩
   have q0:=Zc p0 hww
   have q1:=Zc p1 hww
   have q9:=Zc p9 hww
   have e0:=Zc d0 hbw
   have e1:=Zc d1 hbw
   have e2:=Zc d2 hbw
   have e3:=Zc d3 hbw
   have e4:=Zc d4 hbw
   have e5:=Zc d5 hbw
   have e6:=Zc d6 hbw
   have e7:=Zc d7 hbw
   clear hcx hs p0 p1 p2 p3 p4 p5 p6 p7 p8 ze zc za zd zi zj zg zh d0 d1 d2 d3 d4 d5 d6 d7 e
   cases g2:msB ((setR r0 L T U).hs k) (setR r0 L T U).of with
   | false=>
    have HX:=hid (Kc hkn (by rw [oneB,g2];simp))
    exact Ga
   | true=>
    cases g1:(((setR r0 L T U).hs k).from_ != (setR r0 L T U).num) with
    | true=>
     have HX:=hid (Kc hkn (by rw [oneB,g1];rfl))
     exact Ga
    | false=>
     have HN:=hid (show oneB (setR r0 L T U) k=true by rw [oneB,g1,g2];rfl)
     go_wp2
     refine Zf (by kernel_rfl) (by kernel_rfl) ?_
     repeat (first|(go_big_quiet_step ((go_at_call 66;go_must (exact Zp (Xf ((setR r0 L T U).hs k) (setR r0 L T U).of ah ch _ lo hi (hw1 _) hfk (hs2 _))))))|(refine wpQuiet_step (fun K hK=>?_);go_simp;refine hK _ ?_;clear hK K))
     refine wpQuiet_nil ?_
     rintro w5 ⟨u,hu⟩
     have hw5:Below wr.1.size wr w5:=hu▸u.prop
     clear hu u
     go_wp2
     go_roundw
     case rel=>exact ⟨k+1,by omega,by go_num,hb.trans (hw5.mono hb.size),fun j hj=>by
      by_cases e:j=k
      ·rw [e];exact HN.out
      ·exact HA.out j (by omega)⟩
     case measure=>simp [intOf];omega
  ·have hkn':¬k<r0.hn:=hkn
   have HX:=hid (@heldB_yes (setR r0 L T U) h4 (fun i hi=>HA.out i (by have hi':i<r0.hn:=hi;omega)))
   have hB4:=HB.out
   have H4:=Hw3.below hb hzw3
   have hz4:=hww
   clear hb Hw3
   go_wp2_with fail
   refine (Xo (setR r0 L T U).of (setR r0 L T U).yn (setR r0 L T U).ys A.ya A.yc wr lo hi (Int.le_trans y1 (by omega)) (HC.out.below hB4 hhi).ys).mono ?_
   rintro e w5 ⟨rfl,q5,he5⟩
   have hbw5:Below wr.1.size wr w5:=by rw [he5];exact Yt _ _
   rw [h7]
   clear p0 p1 p2 p3 p4 p5 p6 p7 p8 p9 ze zc za zd zi zj zg zh he5
   have hBw5:Below w.1.size w w5:=hB4.trans (hbw5.mono hB4.size)
   have Hw5:Holds w5 w.1.size (rcC (setR r0 L T U) A):=H4.below hbw5 hz4
   have hzw5:w.1.size<w5.1.size:=ltl hz4 hbw5.size
   clear hbw5 H4
   obtain ⟨p0,p1,p2,p3,p4,p5,p6,p7,p8,p9,ze,zc,za,zd,zi,zj,zg,zh⟩:=Ze Hw5
   cases b7
   ·go_wp2
    go_ret
    exact ⟨Zh (by rw [HR.out];simp),hBw5⟩
   go_wp2_with fail
   refine (XS (setR r0 L T U).bn (setR r0 L T U).bs A.ba A.bc w5 lo hi (ltr hhi hBw5.size) HF.out.bn HF.out.bs (HC.out.below hBw5 hhi).bs).mono ?_
   rintro e w6 ⟨rfl,hbw6⟩
   rw [h8]
   clear p0 p1 p2 p3 p4 p5 p6 p7 p8 p9 ze zc za zd zi zj zg zh
   have hBw6:Below w.1.size w w6:=hBw5.trans (hbw6.mono hBw5.size)
   have Hw6:Holds w6 w.1.size (rcC (setR r0 L T U) A):=Hw5.below hbw6 hzw5
   have hzw6:w.1.size<w6.1.size:=ltl hzw5 hbw6.size
   clear hbw6 Hw5
   obtain ⟨p0,p1,p2,p3,p4,p5,p6,p7,p8,p9,ze,zc,za,zd,zi,zj,zg,zh⟩:=Ze Hw6
   cases b8
   ·go_wp2
    go_ret
    exact ⟨Zh (by rw [HR.out];simp),hBw6⟩
   go_wp2_with fail
   refine (acksS_any (setR r0 L T U).of (setR r0 L T U).an (setR r0 L T U).as_ A.aa A.ac w6 lo hi (Int.le_trans y3 (by omega)) (fun i h=>by have:=(HF.out.as_ i h).n;omega) (HC.out.below hBw6 hhi).as_).mono ?_
   rintro e w7 ⟨rfl,q7,he7⟩
   have hbw7:Below w6.1.size w6 w7:=by rw [he7];exact Yt _ _
   rw [h9]
   clear p0 p1 p2 p3 p4 p5 p6 p7 p8 p9 ze zc za zd zi zj zg zh he7
   have hBw7:Below w.1.size w w7:=hBw6.trans (hbw7.mono hBw6.size)
   have Hw7:Holds w7 w.1.size (rcC (setR r0 L T U) A):=Hw6.below hbw7 hzw6
   have hzw7:w.1.size<w7.1.size:=ltl hzw6 hbw7.size
   clear hbw7 Hw6
   have HRG:Hid (w7.rangeAt w.1.size 0 (rcC (setR r0 L T U) A).toList):=hid (Holds.range (cs:=(rcC (setR r0 L T U) A).toList) Hw7)
   obtain ⟨p0,p1,p2,p3,p4,p5,p6,p7,p8,p9,ze,zc,za,zd,zi,zj,zg,zh⟩:=Ze Hw7
   cases b9
   ·go_wp2
    go_ret
    exact ⟨Zh (by rw [HR.out];simp),hBw7⟩
   cases L
   ·cases T
    ·cases U
     ·have HRL:=hid (show Xj (setR r0 false false false)=YY (setR r0 false false false) from Ot r0 false)
      obtain ⟨bq,hqq⟩:∃ b,YY (setR r0 false false false)=b:=⟨_,rfl⟩
      rw [hqq] at HRL
      cases bq
      ·go_wp2_with (first|((with_reducible show wpList _ _ _ (⟨some 138,Op.load 38 _,_,_,_,_⟩::_) _ _);refine wpList_load_mid rfl 38 _ rfl w.1.size 0 rfl (rcC (setR r0 false false false) A).toList _ HRG.out Tryz.underlying38 rfl Tryz.sz38 ?_)|(go_at_call 81;refine (Yq (setR r0 false false false) A _ y1 y2 y3).mono ?_;rintro e w8 ⟨rfl,hbw8⟩;rw [hqq];have H8:=Hw7.below hbw8 hzw7;have HRG8:Hid (w8.rangeAt w.1.size 0 (rcC (setR r0 false false false) A).toList):=hid (World.rangeAt_below HRG.out hbw8 hzw7);have hB8:Below w.1.size w w8:=hBw7.trans (hbw8.mono hBw7.size);have hz8:w.1.size<w8.1.size:=ltl hzw7 hbw8.size;clear hbw8 Hw7 HRG p0 p1 p2 p3 p4 p5 p6 p7 p8 p9 ze zc za zd zi zj zg zh;obtain ⟨p0,p1,p2,p3,p4,p5,p6,p7,p8,p9,ze,zc,za,zd,zi,zj,zg,zh⟩:=Ze H8))
       go_ret
       exact ⟨Zh (by rw [HR.out,HRL.out];simp),hB8⟩
      obtain ⟨n6,_⟩:=Yj h6
      have n6':0≤r0.hd:=n6
      obtain ⟨_,n7⟩:=Yj h6
      have n7':r0.hd≤1000000:=n7
      clear n6 n7
      by_cases hz:(r0.hn:Int)+(r0.wn:Int)+r0.hd≤0
      ·have hz0:((r0.hn:Int)+(r0.wn:Int)+r0.hd==0)=true:=by simp;omega
       have HBR:=hid (show YD (setR r0 false false false)=true by simp [YD];omega)
       go_wp2_with (first|((with_reducible show wpList _ _ _ (⟨some 138,Op.load 38 _,_,_,_,_⟩::_) _ _);refine wpList_load_mid rfl 38 _ rfl w.1.size 0 rfl (rcC (setR r0 false false false) A).toList _ HRG.out Tryz.underlying38 rfl Tryz.sz38 ?_)|((with_reducible show wpList _ _ _ (⟨some 144,Op.load 38 _,_,_,_,_⟩::_) _ _);refine ZF ?hw 38 _ rfl w.1.size 0 rfl (rcC (setR r0 false false false) A).toList _ HRG8.out Tryz.underlying38 rfl Tryz.sz38 ?_;(case hw=>(go_simp;done)))|(go_at_call 81;refine (Yq (setR r0 false false false) A _ y1 y2 y3).mono ?_;rintro e w9 ⟨rfl,hbw9⟩;rw [hqq];have H9:=H8.below hbw9 hz8;have hB9:Below w.1.size w w9:=hB8.trans (hbw9.mono hB8.size);clear hbw9 H8 p0 p1 p2 p3 p4 p5 p6 p7 p8 p9 ze zc za zd zi zj zg zh;obtain ⟨p0,p1,p2,p3,p4,p5,p6,p7,p8,p9,ze,zc,za,zd,zi,zj,zg,zh⟩:=Ze H9)|(go_at_call 81;refine (Yq (setR r0 false false false) A _ y1 y2 y3).mono ?_;rintro e w8 ⟨rfl,hbw8⟩;rw [hqq];have H8:=Hw7.below hbw8 hzw7;have HRG8:Hid (w8.rangeAt w.1.size 0 (rcC (setR r0 false false false) A).toList):=hid (World.rangeAt_below HRG.out hbw8 hzw7);have hB8:Below w.1.size w w8:=hBw7.trans (hbw8.mono hBw7.size);have hz8:w.1.size<w8.1.size:=ltl hzw7 hbw8.size;clear hbw8 Hw7 HRG p0 p1 p2 p3 p4 p5 p6 p7 p8 p9 ze zc za zd zi zj zg zh;obtain ⟨p0,p1,p2,p3,p4,p5,p6,p7,p8,p9,ze,zc,za,zd,zi,zj,zg,zh⟩:=Ze H8))
       go_ret
       exact ⟨Zh (by rw [HR.out,HRL.out,HX.out,HBR.out];simp),hB9⟩
      ·have hz0:((r0.hn:Int)+(r0.wn:Int)+r0.hd==0)=false:=by simp;omega
       have HBR:=hid (show YD (setR r0 false false false)=false by simp [YD];omega)
       go_wp2_with (first|((with_reducible show wpList _ _ _ (⟨some 138,Op.load 38 _,_,_,_,_⟩::_) _ _);refine wpList_load_mid rfl 38 _ rfl w.1.size 0 rfl (rcC (setR r0 false false false) A).toList _ HRG.out Tryz.underlying38 rfl Tryz.sz38 ?_)|((with_reducible show wpList _ _ _ (⟨some 144,Op.load 38 _,_,_,_,_⟩::_) _ _);refine ZF ?hw 38 _ rfl w.1.size 0 rfl (rcC (setR r0 false false false) A).toList _ HRG8.out Tryz.underlying38 rfl Tryz.sz38 ?_;(case hw=>(go_simp;done)))|(go_at_call 81;refine (Yq (setR r0 false false false) A _ y1 y2 y3).mono ?_;rintro e w9 ⟨rfl,hbw9⟩;rw [hqq];have H9:=H8.below hbw9 hz8;have hB9:Below w.1.size w w9:=hB8.trans (hbw9.mono hB8.size);clear hbw9 H8 p0 p1 p2 p3 p4 p5 p6 p7 p8 p9 ze zc za zd zi zj zg zh;obtain ⟨p0,p1,p2,p3,p4,p5,p6,p7,p8,p9,ze,zc,za,zd,zi,zj,zg,zh⟩:=Ze H9)|(go_at_call 81;refine (Yq (setR r0 false false false) A _ y1 y2 y3).mono ?_;rintro e w8 ⟨rfl,hbw8⟩;rw [hqq];have H8:=Hw7.below hbw8 hzw7;have HRG8:Hid (w8.rangeAt w.1.size 0 (rcC (setR r0 false false false) A).toList):=hid (World.rangeAt_below HRG.out hbw8 hzw7);have hB8:Below w.1.size w w8:=hBw7.trans (hbw8.mono hBw7.size);have hz8:w.1.size<w8.1.size:=ltl hzw7 hbw8.size;clear hbw8 Hw7 HRG p0 p1 p2 p3 p4 p5 p6 p7 p8 p9 ze zc za zd zi zj zg zh;obtain ⟨p0,p1,p2,p3,p4,p5,p6,p7,p8,p9,ze,zc,za,zd,zi,zj,zg,zh⟩:=Ze H8))
       go_ret
       exact ⟨Zh (by rw [HR.out,HBR.out];simp),hB9⟩
     ·have HRL:=hid (show Xj (setR r0 false false true)=YY (setR r0 false false true) from Ot r0 true)
      obtain ⟨bq,hqq⟩:∃ b,YY (setR r0 false false true)=b:=⟨_,rfl⟩
      rw [hqq] at HRL
      cases bq
      ·go_wp2_with (first|((with_reducible show wpList _ _ _ (⟨some 138,Op.load 38 _,_,_,_,_⟩::_) _ _);refine wpList_load_mid rfl 38 _ rfl w.1.size 0 rfl (rcC (setR r0 false false true) A).toList _ HRG.out Tryz.underlying38 rfl Tryz.sz38 ?_)|(go_at_call 81;refine (Yq (setR r0 false false true) A _ y1 y2 y3).mono ?_;rintro e w8 ⟨rfl,hbw8⟩;rw [hqq];have H8:=Hw7.below hbw8 hzw7;have HRG8:Hid (w8.rangeAt w.1.size 0 (rcC (setR r0 false false true) A).toList):=hid (World.rangeAt_below HRG.out hbw8 hzw7);have hB8:Below w.1.size w w8:=hBw7.trans (hbw8.mono hBw7.size);have hz8:w.1.size<w8.1.size:=ltl hzw7 hbw8.size;clear hbw8 Hw7 HRG p0 p1 p2 p3 p4 p5 p6 p7 p8 p9 ze zc za zd zi zj zg zh;obtain ⟨p0,p1,p2,p3,p4,p5,p6,p7,p8,p9,ze,zc,za,zd,zi,zj,zg,zh⟩:=Ze H8))
       go_ret
       exact ⟨Zh (by rw [HR.out,HRL.out];simp),hB8⟩
      go_wp2_with (first|((with_reducible show wpList _ _ _ (⟨some 138,Op.load 38 _,_,_,_,_⟩::_) _ _);refine wpList_load_mid rfl 38 _ rfl w.1.size 0 rfl (rcC (setR r0 false false true) A).toList _ HRG.out Tryz.underlying38 rfl Tryz.sz38 ?_)|(go_at_call 81;refine (Yq (setR r0 false false true) A _ y1 y2 y3).mono ?_;rintro e w8 ⟨rfl,hbw8⟩;rw [hqq];have H8:=Hw7.below hbw8 hzw7;have HRG8:Hid (w8.rangeAt w.1.size 0 (rcC (setR r0 false false true) A).toList):=hid (World.rangeAt_below HRG.out hbw8 hzw7);have hB8:Below w.1.size w w8:=hBw7.trans (hbw8.mono hBw7.size);have hz8:w.1.size<w8.1.size:=ltl hzw7 hbw8.size;clear hbw8 Hw7 HRG p0 p1 p2 p3 p4 p5 p6 p7 p8 p9 ze zc za zd zi zj zg zh;obtain ⟨p0,p1,p2,p3,p4,p5,p6,p7,p8,p9,ze,zc,za,zd,zi,zj,zg,zh⟩:=Ze H8))
      go_ret
      exact ⟨Zh (by rw [HR.out,HRL.out,HX.out];simp),hB8⟩
    ·cases U
     ·have HRL:=hid (show Xj (setR r0 false true false)=(b10&&(((setR r0 false true false).an:Int)==0)) by rw [←h10];rfl)
      cases b10
      ·exact IN
      have hqq:YY (setR r0 false true false)=false:=rfl
      have HBR:=hid (show YD (setR r0 false true false)=false from rfl)
      by_cases hz:(r0.an:Int)≤0
      rotate_left
      ·have HZ:=hid (show (((setR r0 false true false).an:Int)==0)=false by simp;omega)
       exact IP
      have HZ:=hid (show (((setR r0 false true false).an:Int)==0)=true by simp;omega)
      go_wp2_with (first|(go_at_call 75;refine (ZI _ _ _ _).mono ?_;rintro e w0' ⟨rfl,hq⟩;replace hq:=hq.symm;subst hq;first|rw [h0]|rw [h1]|rw [h6]|rw [h10])|((with_reducible show wpList _ _ _ (⟨some 141,_,_,_,_,_⟩::_) _ _);clear hz;rename (r0.an=0)=>hz9;clear hz9)|((with_reducible show wpList _ _ _ (⟨some 144,Op.load 38 _,_,_,_,_⟩::_) _ _);refine ZF ?hw 38 _ rfl w.1.size 0 rfl (rcC (setR r0 false true false) A).toList _ HRG.out Tryz.underlying38 rfl Tryz.sz38 ?_;(case hw=>(go_simp;done)))|(go_at_call 81;refine (Yq (setR r0 false true false) A _ y1 y2 y3).mono ?_;rintro e w8 ⟨rfl,hbw8⟩;rw [hqq];have H8:=Hw7.below hbw8 hzw7;have HRG8:Hid (w8.rangeAt w.1.size 0 (rcC (setR r0 false true false) A).toList):=hid (World.rangeAt_below HRG.out hbw8 hzw7);have hB8:Below w.1.size w w8:=hBw7.trans (hbw8.mono hBw7.size);have hz8:w.1.size<w8.1.size:=ltl hzw7 hbw8.size;clear hbw8 Hw7 HRG p0 p1 p2 p3 p4 p5 p6 p7 p8 p9 ze zc za zd zi zj zg zh;obtain ⟨p0,p1,p2,p3,p4,p5,p6,p7,p8,p9,ze,zc,za,zd,zi,zj,zg,zh⟩:=Ze H8))
      go_ret
      exact ⟨Zh (by rw [HR.out,HBR.out];simp),hB8⟩
     ·have HRL:=hid (show Xj (setR r0 false true true)=(b10&&(((setR r0 false true true).an:Int)==0)) by rw [←h10];rfl)
      cases b10
      ·exact IN
      have hqq:YY (setR r0 false true true)=false:=rfl
      have HBR:=hid (show YD (setR r0 false true true)=false from rfl)
      by_cases hz:(r0.an:Int)≤0
      rotate_left
      ·have HZ:=hid (show (((setR r0 false true true).an:Int)==0)=false by simp;omega)
       exact IP
      have HZ:=hid (show (((setR r0 false true true).an:Int)==0)=true by simp;omega)
      exact FZ
   ·cases T
    ·cases U
     ·have HRL:=hid (show Xj (setR r0 true false false)=(b10&&(((((setR r0 true false false).yn:Int)==0))&&(((setR r0 true false false).bn:Int)==0))) by rw [←h10];rfl)
      cases b10
      ·exact IN
      have hqq:YY (setR r0 true false false)=false:=rfl
      have HBR:=hid (show YD (setR r0 true false false)=false from rfl)
      by_cases hz:(r0.yn:Int)+(r0.bn:Int)≤0
      rotate_left
      ·have HZ:=hid (show (((((setR r0 true false false).yn:Int)==0))&&(((setR r0 true false false).bn:Int)==0))=false by simp;omega)
       exact IP
      have HZ:=hid (show (((((setR r0 true false false).yn:Int)==0))&&(((setR r0 true false false).bn:Int)==0))=true by simp;omega)
      go_wp2_with (first|(go_at_call 75;refine (ZI _ _ _ _).mono ?_;rintro e w0' ⟨rfl,hq⟩;replace hq:=hq.symm;subst hq;first|rw [h0]|rw [h1]|rw [h6]|rw [h10])|((with_reducible show wpList _ _ _ (⟨some 141,_,_,_,_,_⟩::_) _ _);clear hz;rename (r0.an=0)=>hz9;clear hz9)|((with_reducible show wpList _ _ _ (⟨some 144,Op.load 38 _,_,_,_,_⟩::_) _ _);refine ZF ?hw 38 _ rfl w.1.size 0 rfl (rcC (setR r0 true false false) A).toList _ HRG.out Tryz.underlying38 rfl Tryz.sz38 ?_;(case hw=>(go_simp;done)))|(go_at_call 81;refine (Yq (setR r0 true false false) A _ y1 y2 y3).mono ?_;rintro e w8 ⟨rfl,hbw8⟩;rw [hqq];have H8:=Hw7.below hbw8 hzw7;have HRG8:Hid (w8.rangeAt w.1.size 0 (rcC (setR r0 true false false) A).toList):=hid (World.rangeAt_below HRG.out hbw8 hzw7);have hB8:Below w.1.size w w8:=hBw7.trans (hbw8.mono hBw7.size);have hz8:w.1.size<w8.1.size:=ltl hzw7 hbw8.size;clear hbw8 Hw7 HRG p0 p1 p2 p3 p4 p5 p6 p7 p8 p9 ze zc za zd zi zj zg zh;obtain ⟨p0,p1,p2,p3,p4,p5,p6,p7,p8,p9,ze,zc,za,zd,zi,zj,zg,zh⟩:=Ze H8))
      go_ret
      exact ⟨Zh (by rw [HR.out,HBR.out];simp),hB8⟩
     ·have HRL:=hid (show Xj (setR r0 true false true)=(b10&&(((((setR r0 true false true).yn:Int)==0))&&(((setR r0 true false true).bn:Int)==0))) by rw [←h10];rfl)
      cases b10
      ·exact IN
      have hqq:YY (setR r0 true false true)=false:=rfl
      have HBR:=hid (show YD (setR r0 true false true)=false from rfl)
      by_cases hz:(r0.yn:Int)+(r0.bn:Int)≤0
      rotate_left
      ·have HZ:=hid (show (((((setR r0 true false true).yn:Int)==0))&&(((setR r0 true false true).bn:Int)==0))=false by simp;omega)
       exact IP
      have HZ:=hid (show (((((setR r0 true false true).yn:Int)==0))&&(((setR r0 true false true).bn:Int)==0))=true by simp;omega)
      exact FZ
    ·cases U
     ·go_wp2
      go_ret
      exact ⟨Zh (by rw [HR.out];simp),hBw7⟩
     ·go_wp2
      go_ret
      exact ⟨Zh (by rw [HR.out];simp),hBw7⟩
end Go.Proofs.YtokkbdlofbdljaaGreat
