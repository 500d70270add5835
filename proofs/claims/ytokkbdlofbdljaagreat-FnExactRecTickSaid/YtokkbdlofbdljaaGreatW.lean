import Derived.Test.YtokkbdlofbdljaaGreatV
namespace Go.Proofs.YtokkbdlofbdljaaGreat
open Go.RowKit
set_option maxRecDepth 100000
set_option maxHeartbeats 4000000
def oneB (r:Rc) (i:Nat):Bool:=(!((r.hs i).from_ != r.num))&&msB (r.hs i) r.of
def ZZ (r:Rc):Bool:=decide (r.hn≤400)&&YP (oneB r) r.hn
theorem Kc {r:Rc} {k:Nat} (hk:k<r.hn) (h:oneB r k=false):ZZ r=false:=by unfold ZZ;rw [ZQ hk h];simp
theorem heldB_yes {r:Rc} (hn:r.hn≤400) (h:∀ i,i<r.hn→oneB r i=true):ZZ r=true:=by unfold ZZ;rw [allTo_iff.2 h];simp [hn]
theorem Kb (r:Rc) (A:RcA) (w:World) (lo hi:Nat) (hhi:hi≤w.1.size) (hf:ZR r) (hc:MssIn w lo hi A.ha r.hn r.hs) :
  Calls Tryz.prog 91 #[rcV r A] w fun e w'=>e=.returned (.bool (ZZ r))∧Below w.1.size w w':=by
 have f1:=hf.hn
 have HF:=hid hf.hs
 have HC:=hid hc
 clear hf hc
 have mark:Nat:=0
 by_cases hn:r.hn≤400
 ·go_enter Tryz.func91,Tryz.ntmps91
  go_wp2_with (first|((with_reducible show wpList _ _ _ (⟨some 5,_,_,_,_,_⟩::_) _ _);clear mark;have hB0:=Zb w (.cells (rcC r A) 38);have H0:=Zt w (rcC r A) 38;have hz0:w.1.size<(w.alloc (.cells (rcC r A) 38)).1.size:=(by simp);generalize w.alloc (.cells (rcC r A) 38)=W at *;obtain ⟨p0,p1,p2,p3,p4,p5,p6,p7,p8,p9,p10,p11,p12,p13,p14,p15,p16,p17⟩:=Ze H0))
  go_loopw [12] (fun i wr=>∃ k:Nat,k≤r.hn∧i=.int .i64 k∧Below W.1.size W wr∧Hid (∀ j,j<k→oneB r j=true)) (fun i _=>r.hn-(intOf i).toNat)
  case atStart=>exact ⟨0,zle _,rfl,br _ _,fun j hj=>absurd hj (nlz _)⟩
  case round=>
   obtain ⟨k,hk,rfl,hb,HA⟩:=hrel
   have HB:=hid (hB0.trans (hb.mono hB0.size))
   clear p0 p1 p2 p3 p4 p5 p6 p7 p8 p9 p10 p11 p12 p13 p14 p15 p16 p17
   by_cases hkn:k<r.hn
   ·obtain ⟨b,off,ah,ch,e,hlo,hbh,hcx,hs⟩:=HC.out k hkn
    have hs1:=hs.below HB.out hhi
    obtain ⟨d0,d1,d2,d3,d4,d5,d6,d7⟩:=hcx.below HB.out (by omega)
    obtain ⟨p0,p1,p2,p3,p4,p5,p6,p7,p8,p9,p10,p11,p12,p13,p14,p15,p16,p17⟩:=Ze (H0.below hb hz0)
    have hfk:=HF.out k hkn
    rw [e] at *
    have hbw:b<wr.1.size:=by have:=HB.out.size;omega
    have hww:w.1.size<wr.1.size:=by have:=hb.size;omega
    have hw1:hi≤wr.1.size:=ltr hhi HB.out.size
    clear hcx hs p2 p3 p4 p5 p6 p7 p8 p9 p10 p11 p12 p13 p14 p15 p16 p17 H0 e
    cases h1:((r.hs k).from_ != r.num) with
    | true=>
     have HE:=hid (Kc hkn (by rw [oneB,h1];rfl))
     go_wp2
     go_ret
     exact ⟨Zh HE.out.symm,HB.out.alloc HB.out.size _⟩
    | false=>
     cases h2:msB (r.hs k) r.of with
     | false=>
      have HE:=hid (Kc hkn (by rw [oneB,h1,h2];rfl))
      go_wp2_with (go_at_call 69;refine (Xi (r.hs k) r.of ah ch _ lo hi (by simp;omega) hfk (hs1.below (Zb _ _) hw1)).mono ?_;rintro e w1 ⟨rfl,hb1⟩;rw [h2])
      go_ret
      exact ⟨Zh HE.out.symm,(HB.out.alloc HB.out.size _).trans (hb1.mono (by simp;have:=HB.out.size;omega))⟩
     | true=>
      have HN:=hid (show oneB r k=true by rw [oneB,h1,h2];rfl)
      go_wp2_with (go_at_call 69;refine (Xi (r.hs k) r.of ah ch _ lo hi (by simp;omega) hfk (hs1.below (Zb _ _) hw1)).mono ?_;rintro e w1 ⟨rfl,hb1⟩;rw [h2])
      go_roundw
      case rel=>exact ⟨k+1,by omega,by go_num,(hb.alloc hb.size _).trans (hb1.mono (by simp;have:=hb.size;omega)),fun j hj=>by
       by_cases e:j=k
       ·rw [e];exact HN.out
       ·exact HA.out j (by omega)⟩
      case measure=>simp [intOf];omega
   ·have HE:=hid (heldB_yes hn (fun i hi=>HA.out i (by omega)))
    clear H0
    go_wp2
    go_ret
    exact ⟨Zh HE.out.symm,HB.out⟩
 ·have HE:=hid (show ZZ r=false by simp [ZZ,hn])
  go_enter Tryz.func91,Tryz.ntmps91
  go_wp2_with (first|((with_reducible show wpList _ _ _ (⟨some 5,_,_,_,_,_⟩::_) _ _);clear mark;have hB0:=Zb w (.cells (rcC r A) 38);have H0:=Zt w (rcC r A) 38;have hz0:w.1.size<(w.alloc (.cells (rcC r A) 38)).1.size:=(by simp);generalize w.alloc (.cells (rcC r A) 38)=W at *;obtain ⟨p0,p1,p2,p3,p4,p5,p6,p7,p8,p9,p10,p11,p12,p13,p14,p15,p16,p17⟩:=Ze H0))
  go_ret
  exact ⟨Zh HE.out.symm,hB0⟩
theorem JX (r:Rc) (A:RcA) (w:World):Calls Tryz.prog 97 #[rcV r A] w fun e w'=>e=.returned (if r.ld then .iface 143 (.agg #[]) else if r.tr then .iface 144 (.agg #[]) else .iface 145 (.agg #[]))∧Below w.1.size w w':=by
 cases h1:r.ld
 ·cases h2:r.tr
  ·go_enter Tryz.func97,Tryz.ntmps97
   go_wp2
   go_ret
   exact ⟨by simp [*],Zb _ _⟩
  ·go_enter Tryz.func97,Tryz.ntmps97
   go_wp2
   go_ret
   exact ⟨by simp [*],Zb _ _⟩
 ·go_enter Tryz.func97,Tryz.ntmps97
  go_wp2
  go_ret
  exact ⟨by simp [*],Zb _ _⟩
def Xj (r:Rc):Bool:=if r.ld then J4 r else if r.tr then tryB r else Xw r
def Yw (r:Rc):Bool:=Yc r.num r.of&&(dkB r.sf&&(dkB r.dk&&(ZZ r&&(ZA r.wn r.ws&&(inB r.hd 0 1000000&&(numB r.of r.yn r.ys&&(slsB r.bn r.bs&&(aksB r.of r.an r.as_&&(Xj r&&(r.up||YD r))))))))))
def rcB (r:Rc):Bool:=!(r.ld&&r.tr)&&Yw r
theorem quiet_load {P:Program} {C:World→Prop} {o:Oper} {a:Act} {K:Act→Prop} (ty:TypeId) (x:Operand) (ho:o.op=.load ty x) (b:Nat) (hx:a.eval x=.pointer (some ⟨b,0,none⟩)) (cs:List Value) (d:TypeDesc)
  (hS:∀ w,C w→w.rangeAt b 0 cs) (hu:P.underlying ty=some d) (hd:d.isRow=true) (hi:(P.info? ty).map (·.size)=some cs.length) (h:K (a.put o.dst (.agg cs.toArray))):o.quiet P a C K:=
 ⟨_,fun w hC=>by
  unfold Oper.quietAt execOp
  simp only [ho,hx,Instr.loadAt,Instr.sureAddr,Sem.run_bind,Sem.run_pure,Result.andThen_ok,run_loadVar_mid w b 0 ty cs d (hS w hC) hu hd hi]
  exact ⟨rfl,rfl⟩,h⟩
theorem Xy {P:Program} {ops:Array Oper} {C:World→Prop} {Q:Act→Prop} {a:Act} {o:Oper} {rest:List Oper} (hw:Region.wanted o (yielded ops a.tmps)=true) (ty:TypeId) (x:Operand) (ho:o.op=.load ty x) (b:Nat) (hx:a.eval x=.pointer (some ⟨b,0,none⟩)) (cs:List Value) (d:TypeDesc)
  (hS:∀ w,C w→w.rangeAt b 0 cs) (hu:P.underlying ty=some d) (hd:d.isRow=true) (hi:(P.info? ty).map (·.size)=some cs.length)
  (h:∀ K:Act→Prop,(∀ a,wpQuiet P ops C Q rest a→K a)→K (a.put o.dst (.agg cs.toArray))):wpQuiet P ops C Q (o::rest) a:=
 wpQuiet_step (fun K hK=>by rw [if_pos hw];exact quiet_load ty x ho b hx cs d hS hu hd hi (h K hK))
theorem YZ {P:Program} {f:FuncId} {args:Array Value} {w:World} {v:Value} (h:Calls P f args w fun e w'=>e=.returned v∧w'=w):Calls P f args w fun e w'=>e=.returned v∧Below w.1.size w w':=
 h.mono fun _ _ ⟨he,hm⟩=>⟨he,by rw [hm];exact br _ _⟩
theorem Us {P:Program} {f:FuncId} {args:Array Value} {w:World} {v:Value} (h:Calls P f args w fun e w'=>e=.returned v∧∃ q,w'=w.drewN q):Calls P f args w fun e w'=>e=.returned v∧Below w.1.size w w':=
 h.mono fun _ _ ⟨he,q,hm⟩=>⟨he,by rw [hm];exact Yt _ _⟩
theorem meth114 (w:World):(method 295 143 (.agg #[]) "loop.example/wharflog/impl.fits").run Tryz.prog w=.ok (203,.agg #[]) w:=by kernel_rfl
theorem meth115 (w:World):(method 295 144 (.agg #[]) "loop.example/wharflog/impl.fits").run Tryz.prog w=.ok (205,.agg #[]) w:=by kernel_rfl
theorem meth116 (w:World):(method 295 145 (.agg #[]) "loop.example/wharflog/impl.fits").run Tryz.prog w=.ok (206,.agg #[]) w:=by kernel_rfl
abbrev setR (r:Rc) (ld tr up:Bool):Rc:=⟨r.num,r.of,up,r.sf,r.dk,r.hn,r.hs,r.wn,r.ws,ld,tr,r.bal,r.yn,r.ys,r.bn,r.bs,r.an,r.as_,r.hd⟩
end Go.Proofs.YtokkbdlofbdljaaGreat
