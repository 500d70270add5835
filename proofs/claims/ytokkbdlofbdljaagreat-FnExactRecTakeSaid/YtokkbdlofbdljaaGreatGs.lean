import Derived.Test.YtokkbdlofbdljaaGreatGn
namespace Go.Proofs.YtokkbdlofbdljaaGreat
open Go.RowKit
set_option maxHeartbeats 8000000
theorem DskAt.skip {w w':World} {D B qh:Nat} {m:Ms} {ma:Option Addr} {mc:Nat} {r:Rc} {p:RcP} (h:DskAt w D B qh m ma mc r p) (hb:Below w.1.size w w'):DoR B r p r w (.returned (.tuple #[])) w':=
 ⟨rfl,p,h.bx.below hb h.bx.lt,h.g.grow hb,FrP.of_below hb,fun _ hq=>Or.inl hq⟩
theorem DskAt.after {w w1:World} {D B qh:Nat} {m:Ms} {ma:Option Addr} {mc:Nat} {r:Rc} {p:RcP} (_h:DskAt w D B qh m ma mc r p) (hb:Below w.1.size w w1) {r2:Rc} {e:Ending} {w2:World} (h2:DoR B r p r2 w1 e w2):DoR B r p r2 w e w2:=
 DoR.then (FrP.of_below hb) (fun _ hq=>Or.inl hq) h2
theorem rbs_fol {p:RcP} {r:Rc} {b:Int} {k:Nat} (h:rbs (folP p r b) (Zl r b) k):rbs p r k:=by
 unfold folP Zl at h
 by_cases e:b=r.bal
 ·rw [if_pos e,if_pos e] at h;exact h
 ·rw [if_neg e,if_neg e] at h;exact Xv h
theorem Ja (D B qh:Nat) (m:Ms) (ma:Option Addr) (mc:Nat) (r:Rc) (p:RcP) (w:World) (h:DskAt w D B qh m ma mc r p) (b:Int):Calls Tryz.prog 152 #[.pointer (some ⟨B,0,none⟩),.int .i64 b] w fun e w'=>DoR B r p (Zl r b) w e w':=
 (follow_do r p B b w h.bx).mono fun _e _w' ⟨he,hx,hf⟩=>⟨he,folP p r b,hx,(h.g.fr hf (fun k hk e=>(h.ap k hk).1 e)).follow b,hf.mono (fun _q hq=>Or.inl hq),fun _q hq=>Or.inl (rbs_fol hq)⟩
theorem put_dsk (D B qh:Nat) (m:Ms) (ma:Option Addr) (mc:Nat) (r:Rc) (p:RcP) (w:World) (h:DskAt w D B qh m ma mc r p) (k:Nat) (x:Sl) (hk:k<1000):Calls Tryz.prog 154 #[.pointer (some ⟨B,6,none⟩),.int .i64 ((k:Int)+1),slV x] w fun e w'=>DoR B r p (putR r k x) w e w':=
 (put_do r p B k x w h.bx h.g (fun i hi=>(h.ap i hi).1) hk).mono fun e w' ⟨he,p',hx,hg,hf,hr⟩=>⟨he,p',hx,hg,hf.mono (fun q hq=>by
  rcases hq with hq|⟨h1,h2⟩
  ·exact Or.inl hq
  ·exact Or.inr ⟨1,by omega,h1,h2⟩),hr⟩
theorem took_dsk (D B qh:Nat) (m:Ms) (ma:Option Addr) (mc:Nat) (r:Rc) (p:RcP) (w:World) (h:DskAt w D B qh m ma mc r p) (hac:p.A.ac=r.an) (hAC:∀ i,i<r.an→p.AC i=(r.as_ i).n) (hv:AckV r) (x ix:Int) (hix:0≤ix∧ix≤1000000):Calls Tryz.prog 155 #[.pointer (some ⟨B,0,none⟩),.int .i64 x,.int .i64 ix] w fun e w'=>DoR B r p (Ya r x ix) w e w':=
 (took_do r p B x ix w h.bx h.g (fun i hi=>(h.ap i hi).1) hac hAC hv hix).mono fun e w' ⟨he,p',hx,hg,hf,hr⟩=>⟨he,p',hx,hg,hf.mono (fun q hq=>by
  rcases hq with hq|hq
  ·exact Or.inl hq
  ·exact Or.inr ⟨6,by omega,hq⟩),hr⟩
def acdR (r:Rc) (m:Ms):Rc:=if r.ld=true∧r.bal=m.bal∧0<m.ix then Ya r m.from_ m.ix else r
theorem apGs4 {P:Prop} (h:P:=by
  have hne:Nonempty (GW w):=⟨⟨_,br _ _⟩⟩
  refine Zf (by kernel_rfl) (by kernel_rfl) ?_
  repeat (go_big_quiet_step (fail))
  refine wpQuiet_nil ?_
  rintro w8 ⟨u,hu⟩
  have hw8:Below w.1.size w w8:=hu▸u.prop
  clear hu u hne sD0 sD4 sD5 sB11 sB13
  have HW:=hid (H.out.skip hw8)
  clear hw8
  go_wp2
  refine bodyPost_end (results_none rfl _ _ _) rfl ?_
  exact HW.out):P:=h
set_option maxRecDepth 100000 in
theorem accepted_do (D B qh:Nat) (m:Ms) (ma:Option Addr) (mc:Nat) (r:Rc) (p:RcP) (w:World) (h:DskAt w D B qh m ma mc r p) (hac:p.A.ac=r.an) (hAC:∀ i,i<r.an→p.AC i=(r.as_ i).n) (hv:AckV r) (hix:0≤m.ix∧m.ix≤1000000) :
  Calls Tryz.prog 121 #[.pointer (some ⟨D,0,none⟩)] w fun e w'=>DoR B r p (acdR r m) w e w':=by
 have H:=hid h
 clear h
 cases h1:r.ld with
 | false=>
  have HT:=hid (show acdR r m=r from if_neg (fun h=>by rw [h1] at h;cases h.1))
  rw [HT.out]
  go_enter Tryz.func121,Tryz.ntmps121
  go_wp2
  have sD0:=Zc (W1:=w) (p:=⟨D,0,none⟩) (v:=.pointer (some ⟨B,0,none⟩)) (H.out.dk.cell 0) H.out.dk.lt
  have sD4:=Zc (W1:=w) (p:=⟨D,4,none⟩) (v:=.int .i64 m.bal) (H.out.dk.cell 4) H.out.dk.lt
  have sD5:=Zc (W1:=w) (p:=⟨D,5,none⟩) (v:=.int .i64 m.ix) (H.out.dk.cell 5) H.out.dk.lt
  have sB11:=Zc (W1:=w) (p:=⟨B,11,none⟩) (v:=.bool false) ((H.out.bx.cell 11).trans (congrArg (fun b=>some (Value.bool b)) h1)) H.out.bx.lt
  have sB13:=Zc (W1:=w) (p:=⟨B,13,none⟩) (v:=.int .i64 r.bal) (H.out.bx.cell 13) H.out.bx.lt
  exact apGs4
 | true=>
  by_cases h2:r.bal=m.bal
  ·by_cases h3:0<m.ix
   ·skip
    have HT:=hid (show acdR r m=Ya r m.from_ m.ix from if_pos ⟨h1,h2,h3⟩)
    rw [HT.out]
    go_enter Tryz.func121,Tryz.ntmps121
    go_wp2
    have sD0:=Zc (W1:=w) (p:=⟨D,0,none⟩) (v:=.pointer (some ⟨B,0,none⟩)) (H.out.dk.cell 0) H.out.dk.lt
    have sD4:=Zc (W1:=w) (p:=⟨D,4,none⟩) (v:=.int .i64 m.bal) (H.out.dk.cell 4) H.out.dk.lt
    have sD5:=Zc (W1:=w) (p:=⟨D,5,none⟩) (v:=.int .i64 m.ix) (H.out.dk.cell 5) H.out.dk.lt
    have sB11:=Zc (W1:=w) (p:=⟨B,11,none⟩) (v:=.bool true) ((H.out.bx.cell 11).trans (congrArg (fun b=>some (Value.bool b)) h1)) H.out.bx.lt
    have sB13:=Zc (W1:=w) (p:=⟨B,13,none⟩) (v:=.int .i64 m.bal) ((H.out.bx.cell 13).trans (congrArg (fun b=>some (Value.int .i64 b)) h2)) H.out.bx.lt
    have hne:Nonempty (GW w):=⟨⟨_,br _ _⟩⟩
    refine Zf (by kernel_rfl) (by kernel_rfl) ?_
    repeat (go_big_quiet_step (fail))
    refine wpQuiet_nil ?_
    rintro w8 ⟨u,hu⟩
    have hw8:Below w.1.size w w8:=hu▸u.prop
    clear hu u hne sD0 sD4 sD5 sB11 sB13
    have H8:=hid (H.out.grow hw8)
    have HW8:=hid hw8
    clear hw8
    go_wp2
    refine acdReg1 _ _ _ _ _ _ _ _ _ _ _ _ _ _ _ _ _ _ _ _ _ _ _ _ _ _ _ _ _ _ _ _ _ _ _ _ _ _ _ _ _ _ _ _ _ _ D B qh m ma mc r p (fun w'=>DoR B r p (Ya r m.from_ m.ix) w8 (.returned (.tuple #[])) w') w8 H8.out.dk.lt H8.out.bx.lt (H8.out.dk.cell 0) (H8.out.dk.cell 2) (H8.out.dk.cell 5) (fun X hb=>(took_dsk D B qh m ma mc r p X (H8.out.grow hb) hac hAC hv m.from_ m.ix hix).mono fun e w' hd=>⟨hd.1,by have h9:=DskAt.after H8.out hb hd;rw [hd.1] at h9;exact h9⟩) _ ?_
    intro t v3 X hdo
    have HD:=hid (DskAt.after H.out HW8.out hdo)
    clear hdo
    go_wp2
    refine bodyPost_end (results_none rfl _ _ _) rfl ?_
    exact HD.out
   ·skip
    have HT:=hid (show acdR r m=r from if_neg (fun h=>h3 h.2.2))
    have hz:decide (0<m.ix)=false:=decide_eq_false h3
    rw [HT.out]
    go_enter Tryz.func121,Tryz.ntmps121
    go_wp2
    have sD0:=Zc (W1:=w) (p:=⟨D,0,none⟩) (v:=.pointer (some ⟨B,0,none⟩)) (H.out.dk.cell 0) H.out.dk.lt
    have sD4:=Zc (W1:=w) (p:=⟨D,4,none⟩) (v:=.int .i64 m.bal) (H.out.dk.cell 4) H.out.dk.lt
    have sD5:=Zc (W1:=w) (p:=⟨D,5,none⟩) (v:=.int .i64 m.ix) (H.out.dk.cell 5) H.out.dk.lt
    have sB11:=Zc (W1:=w) (p:=⟨B,11,none⟩) (v:=.bool true) ((H.out.bx.cell 11).trans (congrArg (fun b=>some (Value.bool b)) h1)) H.out.bx.lt
    have sB13:=Zc (W1:=w) (p:=⟨B,13,none⟩) (v:=.int .i64 m.bal) ((H.out.bx.cell 13).trans (congrArg (fun b=>some (Value.int .i64 b)) h2)) H.out.bx.lt
    exact apGs4
  ·skip
   have HT:=hid (show acdR r m=r from if_neg (fun h=>h2 h.2.1))
   have hz:(r.bal==m.bal)=false:=by simp;exact h2
   rw [HT.out]
   go_enter Tryz.func121,Tryz.ntmps121
   go_wp2
   have sD0:=Zc (W1:=w) (p:=⟨D,0,none⟩) (v:=.pointer (some ⟨B,0,none⟩)) (H.out.dk.cell 0) H.out.dk.lt
   have sD4:=Zc (W1:=w) (p:=⟨D,4,none⟩) (v:=.int .i64 m.bal) (H.out.dk.cell 4) H.out.dk.lt
   have sD5:=Zc (W1:=w) (p:=⟨D,5,none⟩) (v:=.int .i64 m.ix) (H.out.dk.cell 5) H.out.dk.lt
   have sB11:=Zc (W1:=w) (p:=⟨B,11,none⟩) (v:=.bool true) ((H.out.bx.cell 11).trans (congrArg (fun b=>some (Value.bool b)) h1)) H.out.bx.lt
   have sB13:=Zc (W1:=w) (p:=⟨B,13,none⟩) (v:=.int .i64 r.bal) (H.out.bx.cell 13) H.out.bx.lt
   exact apGs4
def mayB (r:Rc) (m:Ms):Bool:=decide (0<m.bal) && !decide (m.from_=r.num)
theorem apGs1 {P:Prop} (h:P:=by
  have sD4:=Zc (W1:=w) (p:=⟨D,4,none⟩) (v:=.int .i64 m.bal) (H.out.dk.cell 4) H.out.dk.lt
  have sB0:=Zc (W1:=w) (p:=⟨B,0,none⟩) (v:=.int .i64 r.num) (H.out.bx.cell 0) H.out.bx.lt
  have hne:Nonempty (GW w):=⟨⟨_,br _ _⟩⟩
  refine Zf (by kernel_rfl) (by kernel_rfl) ?_
  repeat (go_big_quiet_step (fail))
  refine wpQuiet_nil ?_
  rintro w8 ⟨u,hu⟩
  have hw8:Below w.1.size w w8:=hu▸u.prop
  clear hu u hne sD0 sD2 sD4 sB0
  have HW:=hid hw8
  clear hw8
  go_wp2
  go_ret
  exact ⟨rfl,HW.out⟩):P:=h
theorem apGs5 {P:Prop} (h:P:=by
  rw [HT.out]
  go_enter Tryz.func153,Tryz.ntmps153
  go_wp2
  have sD0:=Zc (W1:=w) (p:=⟨D,0,none⟩) (v:=.pointer (some ⟨B,0,none⟩)) (H.out.dk.cell 0) H.out.dk.lt
  have sD2:=Zc (W1:=w) (p:=⟨D,2,none⟩) (v:=.int .i64 m.from_) (H.out.dk.cell 2) H.out.dk.lt
  exact apGs1):P:=h
set_option maxRecDepth 100000 in
theorem YF (D B qh:Nat) (m:Ms) (ma:Option Addr) (mc:Nat) (r:Rc) (p:RcP) (w:World) (h:DskAt w D B qh m ma mc r p):Calls Tryz.prog 153 #[.pointer (some ⟨D,0,none⟩)] w fun e w'=>e=.returned (.bool (mayB r m))∧Below w.1.size w w':=by
 have H:=hid h
 clear h
 by_cases h1:0<m.bal
 ·by_cases h2:m.from_=r.num
  ·skip
   have HT:=hid (show mayB r m=false by unfold mayB;rw [h2];simp)
   rw [HT.out]
   go_enter Tryz.func153,Tryz.ntmps153
   go_wp2
   have sD0:=Zc (W1:=w) (p:=⟨D,0,none⟩) (v:=.pointer (some ⟨B,0,none⟩)) (H.out.dk.cell 0) H.out.dk.lt
   have sD2:=Zc (W1:=w) (p:=⟨D,2,none⟩) (v:=.int .i64 r.num) ((H.out.dk.cell 2).trans (congrArg (fun b=>some (Value.int .i64 b)) h2)) H.out.dk.lt
   exact apGs1
  ·skip
   have HT:=hid (show mayB r m=true by unfold mayB;rw [decide_eq_true h1];simp;exact h2)
   have hz:(m.from_ != r.num)=true:=by simp;exact h2
   exact apGs5
 ·skip
  have hz:decide (0<m.bal)=false:=decide_eq_false h1
  have HT:=hid (show mayB r m=false by unfold mayB;rw [hz];rfl)
  exact apGs5
def accR2 (r:Rc) (m:Ms):Rc:=if r.dk.kn<m.ix then putR r (m.ix-1).toNat ⟨m.bal,m.text⟩ else r
def accR (r:Rc) (m:Ms):Rc:=if m.bal<r.dk.pr then Zo r ⟨9,0,m.from_,r.dk.pr,0,0,⟨#[]⟩,0,fun _=>⟨0,⟨#[]⟩⟩⟩ else if m.ix=0∨mayB r m=false then r else Zo (accR2 (Zl r m.bal) m) ⟨4,0,m.from_,m.bal,m.ix,0,⟨#[]⟩,0,fun _=>⟨0,⟨#[]⟩⟩⟩
theorem Jy (D B qh:Nat) (m:Ms) (ma:Option Addr) (mc:Nat) (r:Rc) (p:RcP) (w:World) (h:DskAt w D B qh m ma mc r p) (m2:Ms) (hn:m2.n=0):Calls Tryz.prog 150 #[msV m2 none 0,.pointer (some ⟨qh,0,none⟩)] w fun e w'=>DoR B r p (Zo r m2) w e w':=
 Un D B qh m ma mc r p w h m2 none 0 0 ⟨fun h=>absurd h (by omega),fun h=>absurd h (by omega)⟩ (fun h=>absurd hn h) w (br _ _) (fun h=>absurd hn h)
theorem apGs3 {P:Prop} (h:P:=by
  go_wp2
  have sD0:=Zc (W1:=w) (p:=⟨D,0,none⟩) (v:=.pointer (some ⟨B,0,none⟩)) (H.out.dk.cell 0) H.out.dk.lt
  have sD4:=Zc (W1:=w) (p:=⟨D,4,none⟩) (v:=.int .i64 m.bal) (H.out.dk.cell 4) H.out.dk.lt
  have sB6:=Zc (W1:=w) (p:=⟨B,6,none⟩) (v:=.int .i64 r.dk.pr) (H.out.bx.cell 6) H.out.bx.lt
  have hne:Nonempty (GW w):=⟨⟨_,br _ _⟩⟩
  refine Zf (by kernel_rfl) (by kernel_rfl) ?_
  repeat (go_big_quiet_step (fail))
  refine wpQuiet_nil ?_
  rintro w8 ⟨u,hu⟩
  have hw8:Below w.1.size w w8:=hu▸u.prop
  clear hu u hne sD0 sD4 sB6
  have HW8:=hid hw8
  have H8:=hid (H.out.grow hw8)
  clear hw8
  have RF:=hid (UF D B qh m ma mc r p w8 H8.out)
  go_wp2_with (go_at_call 151;go_must (refine RF.out.mono ?_;rintro e w9 hd;have he:=hd.1;subst he;have HD:=hid (DskAt.after H.out HW8.out hd);clear hd))
  refine bodyPost_ret (v:=.tuple #[]) (results_none rfl _ _ _) rfl ?_
  exact HD.out):P:=h
set_option maxRecDepth 100000 in
theorem accept_do (D B qh:Nat) (m:Ms) (ma:Option Addr) (mc:Nat) (r:Rc) (p:RcP) (w:World) (h:DskAt w D B qh m ma mc r p) (hix:0≤m.ix∧m.ix≤60) :
  Calls Tryz.prog 120 #[.pointer (some ⟨D,0,none⟩)] w fun e w'=>DoR B r p (accR r m) w e w':=by
 have H:=hid h
 clear h
 by_cases h1:m.bal<r.dk.pr
 ·skip
  have HT:=hid (show accR r m=Zo r ⟨9,0,m.from_,r.dk.pr,0,0,⟨#[]⟩,0,fun _=>⟨0,⟨#[]⟩⟩⟩ from if_pos h1)
  rw [HT.out]
  go_enter Tryz.func120,Tryz.ntmps120
  exact apGs3
 ·by_cases h2:m.ix=0
  ·skip
   have HT:=hid (show accR r m=r from (if_neg h1).trans (if_pos (Or.inl h2)))
   rw [HT.out]
   have h1z:decide (m.bal<r.dk.pr)=false:=decide_eq_false h1
   go_enter Tryz.func120,Tryz.ntmps120
   go_wp2
   have sD0:=Zc (W1:=w) (p:=⟨D,0,none⟩) (v:=.pointer (some ⟨B,0,none⟩)) (H.out.dk.cell 0) H.out.dk.lt
   have sD4:=Zc (W1:=w) (p:=⟨D,4,none⟩) (v:=.int .i64 m.bal) (H.out.dk.cell 4) H.out.dk.lt
   have sB6:=Zc (W1:=w) (p:=⟨B,6,none⟩) (v:=.int .i64 r.dk.pr) (H.out.bx.cell 6) H.out.bx.lt
   have hne:Nonempty (GW w):=⟨⟨_,br _ _⟩⟩
   refine Zf (by kernel_rfl) (by kernel_rfl) ?_
   repeat (go_big_quiet_step (fail))
   refine wpQuiet_nil ?_
   rintro w8 ⟨u,hu⟩
   have hw8:Below w.1.size w w8:=hu▸u.prop
   clear hu u hne sD0 sD4 sB6
   have HW8:=hid hw8
   have H8:=hid (H.out.grow hw8)
   clear hw8
   have d0:=H8.out.dk.cell 0
   have d5:=H8.out.dk.cell 5
   have e5:w8.cell? ⟨D,5,none⟩=some (.int .i64 m.ix):=d5
   clear d0 d5
   have hDl:=H8.out.dk.lt
   rw [h2] at e5
   go_wp2
   refine bodyPost_ret (v:=.tuple #[]) (results_none rfl _ _ _) rfl ?_
   exact H.out.skip HW8.out
  ·cases h3:mayB r m with
   | false=>
    have HT:=hid (show accR r m=r from (if_neg h1).trans (if_pos (Or.inr h3)))
    rw [HT.out]
    have h1z:decide (m.bal<r.dk.pr)=false:=decide_eq_false h1
    have h2z:(m.ix==0)=false:=by simp;exact h2
    go_enter Tryz.func120,Tryz.ntmps120
    go_wp2
    have sD0:=Zc (W1:=w) (p:=⟨D,0,none⟩) (v:=.pointer (some ⟨B,0,none⟩)) (H.out.dk.cell 0) H.out.dk.lt
    have sD4:=Zc (W1:=w) (p:=⟨D,4,none⟩) (v:=.int .i64 m.bal) (H.out.dk.cell 4) H.out.dk.lt
    have sB6:=Zc (W1:=w) (p:=⟨B,6,none⟩) (v:=.int .i64 r.dk.pr) (H.out.bx.cell 6) H.out.bx.lt
    have hne:Nonempty (GW w):=⟨⟨_,br _ _⟩⟩
    refine Zf (by kernel_rfl) (by kernel_rfl) ?_
    repeat (go_big_quiet_step (fail))
    refine wpQuiet_nil ?_
    rintro w8 ⟨u,hu⟩
    have hw8:Below w.1.size w w8:=hu▸u.prop
    clear hu u hne sD0 sD4 sB6
    have HW8:=hid hw8
    have H8:=hid (H.out.grow hw8)
    clear hw8
    have d0:=H8.out.dk.cell 0
    have d5:=H8.out.dk.cell 5
    have e5:w8.cell? ⟨D,5,none⟩=some (.int .i64 m.ix):=d5
    clear d0 d5
    have hDl:=H8.out.dk.lt
    have MF:=hid (YF D B qh m ma mc r p w8 H8.out)
    rw [h3] at MF
    go_wp2_with (go_at_call 153;go_must (refine MF.out.mono ?_;rintro e w9 ⟨rfl,hb9⟩;have HB9:=hid (HW8.out.trans (hb9.mono HW8.out.size));clear hb9))
    refine bodyPost_ret (v:=.tuple #[]) (results_none rfl _ _ _) rfl ?_
    exact H.out.skip HB9.out
   | true=>
    by_cases h4:(Zl r m.bal).dk.kn<m.ix
    ·skip
     obtain ⟨kk,hkk⟩:∃ kk:Nat,m.ix=(kk:Int)+1:=⟨(m.ix-1).toNat,by omega⟩
     have HA2:=hid (show accR2 (Zl r m.bal) m=putR (Zl r m.bal) kk ⟨m.bal,m.text⟩ from (if_pos h4).trans (by rw [hkk,show ((kk:Int)+1-1).toNat=kk by omega]))
     have HKK:=hid hkk
     clear hkk
     have hkl:kk<100:=by have:=HKK.out;omega
     have HT:=hid (show accR r m=Zo (accR2 (Zl r m.bal) m) ⟨4,0,m.from_,m.bal,m.ix,0,⟨#[]⟩,0,fun _=>⟨0,⟨#[]⟩⟩⟩ from (if_neg h1).trans (if_neg (fun h=>by rcases h with h|h;exact h2 h;rw [h3] at h;cases h)))
     rw [HT.out,HA2.out]
     have h1z:decide (m.bal<r.dk.pr)=false:=decide_eq_false h1
     have h2z:(m.ix==0)=false:=by simp;exact h2
     go_enter Tryz.func120,Tryz.ntmps120
     go_wp2
     have sD0:=Zc (W1:=w) (p:=⟨D,0,none⟩) (v:=.pointer (some ⟨B,0,none⟩)) (H.out.dk.cell 0) H.out.dk.lt
     have sD4:=Zc (W1:=w) (p:=⟨D,4,none⟩) (v:=.int .i64 m.bal) (H.out.dk.cell 4) H.out.dk.lt
     have sB6:=Zc (W1:=w) (p:=⟨B,6,none⟩) (v:=.int .i64 r.dk.pr) (H.out.bx.cell 6) H.out.bx.lt
     have hne:Nonempty (GW w):=⟨⟨_,br _ _⟩⟩
     refine Zf (by kernel_rfl) (by kernel_rfl) ?_
     repeat (go_big_quiet_step (fail))
     refine wpQuiet_nil ?_
     rintro w8 ⟨u,hu⟩
     have hw8:Below w.1.size w w8:=hu▸u.prop
     clear hu u hne sD0 sD4 sB6
     have HW8:=hid hw8
     have H8:=hid (H.out.grow hw8)
     clear hw8
     have d0:=H8.out.dk.cell 0
     have d5:=H8.out.dk.cell 5
     have e5:w8.cell? ⟨D,5,none⟩=some (.int .i64 m.ix):=d5
     clear d0 d5
     have hDl:=H8.out.dk.lt
     have MF:=hid (YF D B qh m ma mc r p w8 H8.out)
     rw [h3] at MF
     go_wp2_with (go_at_call 153;go_must (refine MF.out.mono ?_;rintro e w9 ⟨rfl,hb9⟩;have H9:=hid (H8.out.grow hb9);have HB9:=hid (HW8.out.trans (hb9.mono HW8.out.size));clear hb9))
     refine accReg3 _ _ _ _ _ _ _ _ _ _ _ _ _ _ _ _ _ _ _ _ _ _ _ _ _ _ _ _ _ _ _ _ _ _ _ _ _ _ _ _ _ _ _ _ _ _ _ _ _ _ _ _ _ _ _ _ _ _ _ _ _ _ _ _ _ _ _ _ _ _ _ _ _ _ _ _ _ _ _ _ _ _ _ _ _ _ _ _ _ _ _ _ _ _ _ _ D B qh m ma mc r p (fun w'=>DoR B r p (Zl r m.bal) w9 (.returned (.tuple #[])) w') w9 H9.out.dk.lt H9.out.bx.lt (H9.out.dk.cell 0) (H9.out.dk.cell 4) (fun X hb=>(Ja D B qh m ma mc r p X (H9.out.grow hb) m.bal).mono fun e w' hd=>⟨hd.1,by have h9:=DskAt.after H9.out hb hd;rw [hd.1] at h9;exact h9⟩) _ ?_
     intro twa vwa wa hdo
     obtain ⟨_,p1,x1,g1,f1,s1⟩:=hdo
     have Ha:=hid (H9.out.next x1 g1 f1 s1)
     have Fwa:=hid f1
     have Swa:=hid s1
     have Dwa:=hid (show DoR B r p (Zl r m.bal) w9 (.returned (.tuple #[])) wa from ⟨rfl,p1,x1,g1,f1,s1⟩)
     clear x1 g1 f1 s1
     have HQ:=hid (DskAt.after H.out HB9.out Dwa.out)
     obtain ⟨r1,hr1⟩:∃ r1,Zl r m.bal=r1:=⟨_,rfl⟩
     rw [hr1] at Ha Swa h4
     have HR1:=hid hr1
     clear hr1
     have h4z:r1.dk.kn<m.ix:=h4
     go_wp2
     have sD0:=Zc (W1:=wa) (p:=⟨D,0,none⟩) (v:=.pointer (some ⟨B,0,none⟩)) (Ha.out.dk.cell 0) Ha.out.dk.lt
     have sD5:=Zc (W1:=wa) (p:=⟨D,5,none⟩) (v:=.int .i64 m.ix) (Ha.out.dk.cell 5) Ha.out.dk.lt
     have sB7:=Zc (W1:=wa) (p:=⟨B,7,none⟩) (v:=.int .i64 r1.dk.kn) (Ha.out.bx.cell 7) Ha.out.bx.lt
     have hne:Nonempty (GW wa):=⟨⟨_,br _ _⟩⟩
     refine Zf (by kernel_rfl) (by kernel_rfl) ?_
     repeat (go_big_quiet_step (fail))
     refine wpQuiet_nil ?_
     rintro wb ⟨u,hu⟩
     have hwb:Below wa.1.size wa wb:=hu▸u.prop
     clear hu u hne sD0 sD5 sB7
     have Hb:=hid (Ha.out.grow hwb)
     have HWb:=hid hwb
     clear hwb
     go_wp2
     refine accReg5 _ _ _ _ _ _ _ _ _ _ _ _ _ _ _ _ _ _ _ _ _ _ _ _ _ _ _ _ _ _ _ _ _ _ _ _ _ _ _ _ _ _ _ _ _ _ _ _ _ _ _ _ _ _ _ _ _ _ _ _ _ _ _ _ _ _ _ _ _ _ _ _ _ _ _ _ _ _ _ _ _ _ _ _ _ _ _ _ _ _ _ _ _ _ _ _ D B qh m ma mc r1 p1 (fun w'=>DoR B r1 p1 (putR r1 kk ⟨m.bal,m.text⟩) wb (.returned (.tuple #[])) w') wb Hb.out.dk.lt Hb.out.bx.lt (Hb.out.dk.cell 0) (Hb.out.dk.cell 4) (Hb.out.dk.cell 5) (Hb.out.dk.cell 7) (fun X hb=>(by rw [HKK.out];exact put_dsk D B qh m ma mc r1 p1 X (Hb.out.grow hb) kk ⟨m.bal,m.text⟩ (by omega):Calls Tryz.prog 154 #[.pointer (some ⟨B,6,none⟩),.int .i64 m.ix,.agg #[.int .i64 m.bal,.string m.text]] X fun e w'=>DoR B r1 p1 (putR r1 kk ⟨m.bal,m.text⟩) X e w').mono fun e w' hd=>⟨hd.1,by have h9:=DskAt.after Hb.out hb hd;rw [hd.1] at h9;exact h9⟩) _ ?_
     intro twc vwc wc hdo
     obtain ⟨_,p2,x1,g1,f1,s1⟩:=hdo
     have Hc:=hid (Hb.out.next x1 g1 f1 s1)
     have Fwc:=hid f1
     have Swc:=hid s1
     have Dwc:=hid (show DoR B r1 p1 (putR r1 kk ⟨m.bal,m.text⟩) wb (.returned (.tuple #[])) wc from ⟨rfl,p2,x1,g1,f1,s1⟩)
     clear x1 g1 f1 s1
     obtain ⟨r2,hr2⟩:∃ r2,putR r1 kk ⟨m.bal,m.text⟩=r2:=⟨_,rfl⟩
     rw [hr2] at Hc Swc Dwc
     have HR2:=hid hr2
     clear hr2
     go_wp2
     refine accReg6 _ _ _ _ _ _ _ _ _ _ _ _ _ _ _ _ _ _ _ _ _ _ _ _ _ _ _ _ _ _ _ _ _ _ _ _ _ _ _ _ _ _ _ _ _ _ _ _ _ _ _ _ _ _ _ _ _ _ _ _ _ _ _ _ _ _ _ _ _ _ _ _ _ _ _ _ _ _ _ _ _ _ _ _ _ _ _ _ _ _ _ _ _ _ _ _ D B qh m ma mc r2 p2 (fun w'=>DoR B r2 p2 (Zo r2 ⟨4,0,m.from_,m.bal,m.ix,0,⟨#[]⟩,0,fun _=>⟨0,⟨#[]⟩⟩⟩) wc (.returned (.tuple #[])) w') wc Hc.out.dk.lt Hc.out.bx.lt (Hc.out.dk.cell 2) (Hc.out.dk.cell 4) (Hc.out.dk.cell 5) (Hc.out.dk.cell 9) (fun X hb=>(Jy D B qh m ma mc r2 p2 X (Hc.out.grow hb) ⟨4,0,m.from_,m.bal,m.ix,0,⟨#[]⟩,0,fun _=>⟨0,⟨#[]⟩⟩⟩ rfl).mono fun e w' hd=>⟨hd.1,by have h9:=DskAt.after Hc.out hb hd;rw [hd.1] at h9;exact h9⟩) _ ?_
     intro twd vwd wd hdo
     obtain ⟨_,p3,x1,g1,f1,s1⟩:=hdo
     have Hd:=hid (Hc.out.next x1 g1 f1 s1)
     have Fwd:=hid f1
     have Swd:=hid s1
     have Dwd:=hid (show DoR B r2 p2 (Zo r2 ⟨4,0,m.from_,m.bal,m.ix,0,⟨#[]⟩,0,fun _=>⟨0,⟨#[]⟩⟩⟩) wc (.returned (.tuple #[])) wd from ⟨rfl,p3,x1,g1,f1,s1⟩)
     clear x1 g1 f1 s1
     go_wp2
     refine bodyPost_end (results_none rfl _ _ _) rfl ?_
     have e1:=HR1.out
     subst e1
     have e2:=HR2.out
     subst e2
     exact DskAt.after H.out HB9.out (DoR.then Fwa.out Swa.out (DskAt.after Ha.out HWb.out (DoR.then Fwc.out Swc.out Dwd.out)))
    ·skip
     obtain ⟨kk,hkk⟩:∃ kk:Nat,m.ix=(kk:Int)+1:=⟨(m.ix-1).toNat,by omega⟩
     have HA2:=hid (show accR2 (Zl r m.bal) m=Zl r m.bal from if_neg h4)
     have HKK:=hid hkk
     clear hkk
     have hkl:kk<100:=by have:=HKK.out;omega
     have HT:=hid (show accR r m=Zo (accR2 (Zl r m.bal) m) ⟨4,0,m.from_,m.bal,m.ix,0,⟨#[]⟩,0,fun _=>⟨0,⟨#[]⟩⟩⟩ from (if_neg h1).trans (if_neg (fun h=>by rcases h with h|h;exact h2 h;rw [h3] at h;cases h)))
     rw [HT.out,HA2.out]
     have h1z:decide (m.bal<r.dk.pr)=false:=decide_eq_false h1
     have h2z:(m.ix==0)=false:=by simp;exact h2
     go_enter Tryz.func120,Tryz.ntmps120
     go_wp2
     have sD0:=Zc (W1:=w) (p:=⟨D,0,none⟩) (v:=.pointer (some ⟨B,0,none⟩)) (H.out.dk.cell 0) H.out.dk.lt
     have sD4:=Zc (W1:=w) (p:=⟨D,4,none⟩) (v:=.int .i64 m.bal) (H.out.dk.cell 4) H.out.dk.lt
     have sB6:=Zc (W1:=w) (p:=⟨B,6,none⟩) (v:=.int .i64 r.dk.pr) (H.out.bx.cell 6) H.out.bx.lt
     have hne:Nonempty (GW w):=⟨⟨_,br _ _⟩⟩
     refine Zf (by kernel_rfl) (by kernel_rfl) ?_
     repeat (go_big_quiet_step (fail))
     refine wpQuiet_nil ?_
     rintro w8 ⟨u,hu⟩
     have hw8:Below w.1.size w w8:=hu▸u.prop
     clear hu u hne sD0 sD4 sB6
     have HW8:=hid hw8
     have H8:=hid (H.out.grow hw8)
     clear hw8
     have d0:=H8.out.dk.cell 0
     have d5:=H8.out.dk.cell 5
     have e5:w8.cell? ⟨D,5,none⟩=some (.int .i64 m.ix):=d5
     clear d0 d5
     have hDl:=H8.out.dk.lt
     have MF:=hid (YF D B qh m ma mc r p w8 H8.out)
     rw [h3] at MF
     go_wp2_with (go_at_call 153;go_must (refine MF.out.mono ?_;rintro e w9 ⟨rfl,hb9⟩;have H9:=hid (H8.out.grow hb9);have HB9:=hid (HW8.out.trans (hb9.mono HW8.out.size));clear hb9))
     refine accReg3 _ _ _ _ _ _ _ _ _ _ _ _ _ _ _ _ _ _ _ _ _ _ _ _ _ _ _ _ _ _ _ _ _ _ _ _ _ _ _ _ _ _ _ _ _ _ _ _ _ _ _ _ _ _ _ _ _ _ _ _ _ _ _ _ _ _ _ _ _ _ _ _ _ _ _ _ _ _ _ _ _ _ _ _ _ _ _ _ _ _ _ _ _ _ _ _ D B qh m ma mc r p (fun w'=>DoR B r p (Zl r m.bal) w9 (.returned (.tuple #[])) w') w9 H9.out.dk.lt H9.out.bx.lt (H9.out.dk.cell 0) (H9.out.dk.cell 4) (fun X hb=>(Ja D B qh m ma mc r p X (H9.out.grow hb) m.bal).mono fun e w' hd=>⟨hd.1,by have h9:=DskAt.after H9.out hb hd;rw [hd.1] at h9;exact h9⟩) _ ?_
     intro twa vwa wa hdo
     obtain ⟨_,p1,x1,g1,f1,s1⟩:=hdo
     have Ha:=hid (H9.out.next x1 g1 f1 s1)
     have Fwa:=hid f1
     have Swa:=hid s1
     have Dwa:=hid (show DoR B r p (Zl r m.bal) w9 (.returned (.tuple #[])) wa from ⟨rfl,p1,x1,g1,f1,s1⟩)
     clear x1 g1 f1 s1
     have HQ:=hid (DskAt.after H.out HB9.out Dwa.out)
     obtain ⟨r1,hr1⟩:∃ r1,Zl r m.bal=r1:=⟨_,rfl⟩
     rw [hr1] at Ha Swa h4
     have HR1:=hid hr1
     clear hr1
     have h4z:decide (r1.dk.kn<m.ix)=false:=decide_eq_false (by omega)
     go_wp2
     have sD0:=Zc (W1:=wa) (p:=⟨D,0,none⟩) (v:=.pointer (some ⟨B,0,none⟩)) (Ha.out.dk.cell 0) Ha.out.dk.lt
     have sD5:=Zc (W1:=wa) (p:=⟨D,5,none⟩) (v:=.int .i64 m.ix) (Ha.out.dk.cell 5) Ha.out.dk.lt
     have sB7:=Zc (W1:=wa) (p:=⟨B,7,none⟩) (v:=.int .i64 r1.dk.kn) (Ha.out.bx.cell 7) Ha.out.bx.lt
     have hne:Nonempty (GW wa):=⟨⟨_,br _ _⟩⟩
     refine Zf (by kernel_rfl) (by kernel_rfl) ?_
     repeat (go_big_quiet_step (fail))
     refine wpQuiet_nil ?_
     rintro wb ⟨u,hu⟩
     have hwb:Below wa.1.size wa wb:=hu▸u.prop
     clear hu u hne sD0 sD5 sB7
     have Hb:=hid (Ha.out.grow hwb)
     have HWb:=hid hwb
     clear hwb
     go_wp2
     refine accReg6 _ _ _ _ _ _ _ _ _ _ _ _ _ _ _ _ _ _ _ _ _ _ _ _ _ _ _ _ _ _ _ _ _ _ _ _ _ _ _ _ _ _ _ _ _ _ _ _ _ _ _ _ _ _ _ _ _ _ _ _ _ _ _ _ _ _ _ _ _ _ _ _ _ _ _ _ _ _ _ _ _ _ _ _ _ _ _ _ _ _ _ _ _ _ _ _ D B qh m ma mc r1 p1 (fun w'=>DoR B r1 p1 (Zo r1 ⟨4,0,m.from_,m.bal,m.ix,0,⟨#[]⟩,0,fun _=>⟨0,⟨#[]⟩⟩⟩) wb (.returned (.tuple #[])) w') wb Hb.out.dk.lt Hb.out.bx.lt (Hb.out.dk.cell 2) (Hb.out.dk.cell 4) (Hb.out.dk.cell 5) (Hb.out.dk.cell 9) (fun X hb=>(Jy D B qh m ma mc r1 p1 X (Hb.out.grow hb) ⟨4,0,m.from_,m.bal,m.ix,0,⟨#[]⟩,0,fun _=>⟨0,⟨#[]⟩⟩⟩ rfl).mono fun e w' hd=>⟨hd.1,by have h9:=DskAt.after Hb.out hb hd;rw [hd.1] at h9;exact h9⟩) _ ?_
     intro twd vwd wd hdo
     obtain ⟨_,p3,x1,g1,f1,s1⟩:=hdo
     have Hd:=hid (Hb.out.next x1 g1 f1 s1)
     have Fwd:=hid f1
     have Swd:=hid s1
     have Dwd:=hid (show DoR B r1 p1 (Zo r1 ⟨4,0,m.from_,m.bal,m.ix,0,⟨#[]⟩,0,fun _=>⟨0,⟨#[]⟩⟩⟩) wb (.returned (.tuple #[])) wd from ⟨rfl,p3,x1,g1,f1,s1⟩)
     clear x1 g1 f1 s1
     go_wp2
     refine bodyPost_end (results_none rfl _ _ _) rfl ?_
     have e1:=HR1.out
     subst e1
     exact DskAt.after H.out HB9.out (DoR.then Fwa.out Swa.out (DskAt.after Ha.out HWb.out (Dwd.out)))
def choR (r:Rc) (m:Ms):Rc:=if m.ix=r.dk.kn+1∧inB m.bal 1 r.dk.pr=true then knR (putR r r.dk.kn.toNat ⟨m.bal,m.text⟩) m.ix else r
theorem apGs6 {P:Prop} (h:P:=by
  refine wpQuiet_nil ?_
  rintro w8 ⟨u,hu⟩
  have hw8:Below w.1.size w w8:=hu▸u.prop
  clear hu u hne sD0 sD4 sD5 sB6 sB7
  have HW8:=hid hw8
  have H8:=hid (H.out.grow hw8)
  clear hw8 d0a
  go_wp2
  refine bodyPost_end (results_none rfl _ _ _) rfl ?_
  exact H.out.skip HW8.out):P:=h
set_option maxRecDepth 100000 in
theorem chosen_do (D B qh:Nat) (m:Ms) (ma:Option Addr) (mc:Nat) (r:Rc) (p:RcP) (w:World) (h:DskAt w D B qh m ma mc r p) (hk0:0≤r.dk.kn∧r.dk.kn≤60) :
  Calls Tryz.prog 123 #[.pointer (some ⟨D,0,none⟩)] w fun e w'=>DoR B r p (choR r m) w e w':=by
 have H:=hid h
 clear h
 obtain ⟨hk0,hk1⟩:=hk0
 have HPUT:=hid (fun X (hX:DskAt X D B qh m ma mc r p)=>(show Calls Tryz.prog 154 #[.pointer (some ⟨B,6,none⟩),.int .i64 (r.dk.kn+1),.agg #[.int .i64 m.bal,.string m.text]] X fun e w'=>DoR B r p (putR r r.dk.kn.toNat ⟨m.bal,m.text⟩) X e w' from by
  have h:=put_dsk D B qh m ma mc r p X hX r.dk.kn.toNat ⟨m.bal,m.text⟩ (by omega)
  rw [Int.toNat_of_nonneg hk0] at h
  exact h))
 by_cases h1:m.ix=r.dk.kn+1
 ·cases h2:inB m.bal 1 r.dk.pr with
  | true=>
   have HT:=hid (show choR r m=knR (putR r r.dk.kn.toNat ⟨m.bal,m.text⟩) m.ix from if_pos ⟨h1,h2⟩)
   rw [HT.out]
   have HIX:=hid h1
   clear h1
   have WI:=hid (fun X:World=>Jt (show Calls Tryz.prog 93 #[.int .i64 m.bal,.int .i64 1,.int .i64 r.dk.pr] X fun e w'=>e=.returned (.bool true)∧w'=X by have h:=Zu m.bal 1 r.dk.pr X;rw [h2] at h;exact h))
   have d0:=H.out.dk.cell 0
   have d0a:w.cell? ⟨D,0,none⟩=some (.pointer (some ⟨B,0,none⟩)):=d0
   clear d0
   go_enter Tryz.func123,Tryz.ntmps123
   go_wp2
   have sD0:=Zc (W1:=w) (p:=⟨D,0,none⟩) (v:=.pointer (some ⟨B,0,none⟩)) (H.out.dk.cell 0) H.out.dk.lt
   have sD4:=Zc (W1:=w) (p:=⟨D,4,none⟩) (v:=.int .i64 m.bal) (H.out.dk.cell 4) H.out.dk.lt
   have sD5:=Zc (W1:=w) (p:=⟨D,5,none⟩) (v:=.int .i64 (r.dk.kn+1)) ((H.out.dk.cell 5).trans (congrArg (fun b=>some (Value.int .i64 b)) HIX.out)) H.out.dk.lt
   have sB6:=Zc (W1:=w) (p:=⟨B,6,none⟩) (v:=.int .i64 r.dk.pr) (H.out.bx.cell 6) H.out.bx.lt
   have sB7:=Zc (W1:=w) (p:=⟨B,7,none⟩) (v:=.int .i64 r.dk.kn) (H.out.bx.cell 7) H.out.bx.lt
   have hne:Nonempty (GW w):=⟨⟨_,br _ _⟩⟩
   refine Zf (by kernel_rfl) (by kernel_rfl) ?_
   repeat (go_big_quiet_step ((go_at_call 93;go_must (exact Zp (WI.out _)))))
   refine wpQuiet_nil ?_
   rintro w8 ⟨u,hu⟩
   have hw8:Below w.1.size w w8:=hu▸u.prop
   clear hu u hne sD0 sD4 sD5 sB6 sB7
   have HW8:=hid hw8
   have H8:=hid (H.out.grow hw8)
   clear hw8 d0a
   go_wp2
   refine choReg2 _ _ _ _ _ _ _ _ _ _ _ _ _ _ _ _ _ _ _ _ _ _ _ _ _ _ _ _ _ _ _ _ _ _ _ _ _ _ _ _ _ _ _ _ _ _ _ _ _ _ _ _ _ _ _ _ D B qh m ma mc r p (fun w'=>DoR B r p (putR r r.dk.kn.toNat ⟨m.bal,m.text⟩) w8 (.returned (.tuple #[])) w') w8 H8.out.dk.lt H8.out.bx.lt (H8.out.dk.cell 4) (H8.out.dk.cell 5) (H8.out.dk.cell 7) (fun X hb=>(by rw [HIX.out];exact HPUT.out X (H8.out.grow hb):Calls Tryz.prog 154 #[.pointer (some ⟨B,6,none⟩),.int .i64 m.ix,.agg #[.int .i64 m.bal,.string m.text]] X fun e w'=>DoR B r p (putR r r.dk.kn.toNat ⟨m.bal,m.text⟩) X e w').mono fun e w' hd=>⟨hd.1,by have h9:=DskAt.after H8.out hb hd;rw [hd.1] at h9;exact h9⟩) _ ?_
   intro twa vwa wa hdo
   obtain ⟨_,p1,x1,g1,f1,s1⟩:=hdo
   have Ha:=hid (H8.out.next x1 g1 f1 s1)
   have Fwa:=hid f1
   have Swa:=hid s1
   have Dwa:=hid (show DoR B r p (putR r r.dk.kn.toNat ⟨m.bal,m.text⟩) w8 (.returned (.tuple #[])) wa from ⟨rfl,p1,x1,g1,f1,s1⟩)
   clear x1 g1 f1 s1
   obtain ⟨r1,hr1⟩:∃ r1,putR r r.dk.kn.toNat ⟨m.bal,m.text⟩=r1:=⟨_,rfl⟩
   rw [hr1] at Ha Swa Dwa
   have HR1:=hid hr1
   clear hr1
   have d5:=Ha.out.dk.cell 5
   have d5a:wa.cell? ⟨D,5,none⟩=some (.int .i64 m.ix):=d5
   have b7:=Ha.out.bx.cell 7
   have b7a:wa.cell? ⟨B,7,none⟩=some (.int .i64 r1.dk.kn):=b7
   have bf:=Ha.out.bx.free
   have hBl:=Ha.out.bx.lt
   have hDl:=Ha.out.dk.lt
   clear d5 b7
   have X9:=hid (Ha.out.bx.to (Jp Ha.out.bx.cell (.int .i64 m.ix)))
   have F9:Hid (FrP (fun q=>q=B) wa (wa.setCell ⟨B,7,none⟩ (.int .i64 m.ix))):=hid ((FrP.refl (fun q=>q=B) wa).setCell (p:=⟨B,7,none⟩) rfl _)
   go_wp2
   refine bodyPost_end (results_none rfl _ _ _) rfl ?_
   have e1:=HR1.out
   subst e1
   refine DskAt.after H.out HW8.out (DoR.then Fwa.out Swa.out ⟨rfl,p1,X9.out,((Ha.out.g.fr F9.out (fun q hq e=>(Ha.out.ap q hq).1 e)).kn _),F9.out.mono (fun q hq=>Or.inl hq),fun q hq=>Or.inl hq⟩)
  | false=>
   have HT:=hid (show choR r m=r from if_neg (fun h=>by rw [h2] at h;cases h.2))
   rw [HT.out]
   have HIX:=hid h1
   clear h1
   have WI:=hid (fun X:World=>Jt (show Calls Tryz.prog 93 #[.int .i64 m.bal,.int .i64 1,.int .i64 r.dk.pr] X fun e w'=>e=.returned (.bool false)∧w'=X by have h:=Zu m.bal 1 r.dk.pr X;rw [h2] at h;exact h))
   have d0:=H.out.dk.cell 0
   have d0a:w.cell? ⟨D,0,none⟩=some (.pointer (some ⟨B,0,none⟩)):=d0
   clear d0
   go_enter Tryz.func123,Tryz.ntmps123
   go_wp2
   have sD0:=Zc (W1:=w) (p:=⟨D,0,none⟩) (v:=.pointer (some ⟨B,0,none⟩)) (H.out.dk.cell 0) H.out.dk.lt
   have sD4:=Zc (W1:=w) (p:=⟨D,4,none⟩) (v:=.int .i64 m.bal) (H.out.dk.cell 4) H.out.dk.lt
   have sD5:=Zc (W1:=w) (p:=⟨D,5,none⟩) (v:=.int .i64 (r.dk.kn+1)) ((H.out.dk.cell 5).trans (congrArg (fun b=>some (Value.int .i64 b)) HIX.out)) H.out.dk.lt
   have sB6:=Zc (W1:=w) (p:=⟨B,6,none⟩) (v:=.int .i64 r.dk.pr) (H.out.bx.cell 6) H.out.bx.lt
   have sB7:=Zc (W1:=w) (p:=⟨B,7,none⟩) (v:=.int .i64 r.dk.kn) (H.out.bx.cell 7) H.out.bx.lt
   have hne:Nonempty (GW w):=⟨⟨_,br _ _⟩⟩
   refine Zf (by kernel_rfl) (by kernel_rfl) ?_
   repeat (go_big_quiet_step ((go_at_call 93;go_must (exact Zp (WI.out _)))))
   exact apGs6
 ·skip
  have HT:=hid (show choR r m=r from if_neg (fun h=>h1 h.1))
  have hz:(m.ix==r.dk.kn+1)=false:=by simp;exact h1
  rw [HT.out]
  have d0:=H.out.dk.cell 0
  have d0a:w.cell? ⟨D,0,none⟩=some (.pointer (some ⟨B,0,none⟩)):=d0
  clear d0
  go_enter Tryz.func123,Tryz.ntmps123
  go_wp2
  have sD0:=Zc (W1:=w) (p:=⟨D,0,none⟩) (v:=.pointer (some ⟨B,0,none⟩)) (H.out.dk.cell 0) H.out.dk.lt
  have sD4:=Zc (W1:=w) (p:=⟨D,4,none⟩) (v:=.int .i64 m.bal) (H.out.dk.cell 4) H.out.dk.lt
  have sD5:=Zc (W1:=w) (p:=⟨D,5,none⟩) (v:=.int .i64 m.ix) (H.out.dk.cell 5) H.out.dk.lt
  have sB6:=Zc (W1:=w) (p:=⟨B,6,none⟩) (v:=.int .i64 r.dk.pr) (H.out.bx.cell 6) H.out.bx.lt
  have sB7:=Zc (W1:=w) (p:=⟨B,7,none⟩) (v:=.int .i64 r.dk.kn) (H.out.bx.cell 7) H.out.bx.lt
  have hne:Nonempty (GW w):=⟨⟨_,br _ _⟩⟩
  refine Zf (by kernel_rfl) (by kernel_rfl) ?_
  repeat (go_big_quiet_step (fail))
  exact apGs6
def rfdReg2G (D B _qh:Nat) (m:Ms) (_ma:Option Addr) (_mc:Nat) (r:Rc) (_p:RcP) (_W:World) (i:Nat) (v:Value) (_X:World):Prop:=
 match i with
 | 0=>v=.pointer (some ⟨D,0,none⟩)
 | 1=>v=.pointer (some ⟨D,0,none⟩)
 | 2=>v=.pointer (some ⟨D,0,none⟩)
 | 3=>v=.pointer (some ⟨B,0,none⟩)
 | 4=>v=.pointer (some ⟨D,0,none⟩)
 | 5=>v=.pointer (some ⟨D,0,none⟩)
 | 6=>v=.pointer (some ⟨D,0,none⟩)
 | 7=>v=.pointer (some ⟨B,0,none⟩)
 | 8=>v=.pointer (some ⟨B,0,none⟩)
 | 9=>v=.pointer (some ⟨B,6,none⟩)
 | 10=>v=.pointer (some ⟨B,6,none⟩)
 | 11=>v=.int .i64 r.dk.pr
 | 12=>v=.pointer (some ⟨D,0,none⟩)
 | 13=>v=.pointer (some ⟨D,0,none⟩)
 | 14=>v=.pointer (some ⟨D,1,none⟩)
 | 15=>v=.pointer (some ⟨D,4,none⟩)
 | 16=>v=.int .i64 m.bal
 | 17=>v=.int .i64 (mxI r.dk.pr m.bal)
 | 18=>v=.pointer (some ⟨B,0,none⟩)
 | 19=>v=.pointer (some ⟨B,6,none⟩)
 | 20=>v=.pointer (some ⟨B,6,none⟩)
 | _=>True
set_option maxRecDepth 100000 in
theorem rfdReg2 (p1 p2 p3 p4 p5 p6 p7 p8 p9 p10 p11 p12 p13 p14 p15 p16 p17 p18 p19 p20 p21 p22 p23 p24 p25 p26 p27 p28 p29 p30 p31 p32 p33 p34 p35 p36 p37:Value) (w0 w1 w2 w3 w4 w5 w6 w7 w8 w9 w10 w11 w12 w13 w14 w15 w16 w17 w18 w19 w20:Value) (D B qh:Nat) (m:Ms) (ma:Option Addr) (mc:Nat) (r:Rc) (p:RcP) (W:World) (hD:D<W.1.size) (hB:B<W.1.size) (cD0:W.cell? ⟨D,0,none⟩=some (.pointer (some ⟨B,0,none⟩))) (cD4:W.cell? ⟨D,4,none⟩=some (.int .i64 m.bal)) (cB6:W.cell? ⟨B,6,none⟩=some (.int .i64 r.dk.pr)) (fB6:W.frozen? ⟨B,6,none⟩=false) (Q:Exit→Act→World→Prop) (hQ:∀ (t:Nat→Value) (_v3:Value) X,(∃ Y,X=Y.setCell ⟨B,6,none⟩ (.int .i64 (mxI r.dk.pr m.bal))∧Below W.1.size W Y)→Q .normal ⟨#[.pointer (some ⟨D,0,none⟩),p1,p2,p3,p4,p5,p6,p7,p8,p9,p10,p11,p12,p13,p14,p15,p16,p17,p18,p19,p20,p21,p22,p23,p24,p25,p26,p27,p28,p29,p30,p31,p32,p33,p34,p35,p36,p37,t 0,t 1,t 2,t 3,t 4,t 5,t 6,t 7,t 8,t 9,t 10,t 11,t 12,t 13,t 14,t 15,t 16,t 17,t 18,t 19,t 20],[]⟩ X) :
  Code.wp Tryz.prog (Code.region 2 #[⟨some 38,.move (.tmp 0),151, "l14_rec_take.go:150",#[],none⟩,⟨some 39,.nilCheck (.tmp 38),0, "l14_rec_take.go:150",#[⟨0,.data⟩],none⟩,⟨some 40,.fieldAddr 134 (.tmp 39) 0,0, "l14_rec_take.go:150",#[⟨1,.data⟩],none⟩,⟨some 41,.load 81 (.tmp 40),81, "l14_rec_take.go:150",#[⟨2,.data⟩],none⟩,⟨some 42,.move (.tmp 0),151, "l14_rec_take.go:150",#[],none⟩,⟨some 43,.nilCheck (.tmp 42),0, "l14_rec_take.go:150",#[⟨4,.data⟩],none⟩,⟨some 44,.fieldAddr 134 (.tmp 43) 0,0, "l14_rec_take.go:150",#[⟨5,.data⟩],none⟩,⟨some 45,.load 81 (.tmp 44),81, "l14_rec_take.go:150",#[⟨6,.data⟩],none⟩,⟨some 46,.nilCheck (.tmp 45),0, "l14_rec_take.go:150",#[⟨7,.data⟩],none⟩,⟨some 47,.fieldAddr 38 (.tmp 46) 4,0, "l14_rec_take.go:150",#[⟨8,.data⟩],none⟩,⟨some 48,.fieldAddr 34 (.tmp 47) 0,0, "l14_rec_take.go:150",#[⟨9,.data⟩],none⟩,⟨some 49,.load 3 (.tmp 48),3, "l14_rec_take.go:150",#[⟨10,.data⟩],none⟩,⟨some 50,.move (.tmp 0),151, "l14_rec_take.go:150",#[],none⟩,⟨some 51,.nilCheck (.tmp 50),0, "l14_rec_take.go:150",#[⟨12,.data⟩],none⟩,⟨some 52,.fieldAddr 134 (.tmp 51) 1,0, "l14_rec_take.go:150",#[⟨13,.data⟩],none⟩,⟨some 53,.fieldAddr 52 (.tmp 52) 3,0, "l14_rec_take.go:150",#[⟨14,.data⟩],none⟩,⟨some 54,.load 3 (.tmp 53),3, "l14_rec_take.go:150",#[⟨15,.data⟩],none⟩,⟨some 55,.call ⟨.builtin .max,#[.tmp 49,.tmp 54],#[3,3]⟩,3, "l14_rec_take.go:150",#[⟨11,.data⟩,⟨16,.data⟩],none⟩,⟨some 56,.nilCheck (.tmp 41),0, "l14_rec_take.go:150",#[⟨3,.data⟩,⟨0,.phase⟩,⟨1,.phase⟩,⟨2,.phase⟩,⟨3,.phase⟩,⟨4,.phase⟩,⟨5,.phase⟩,⟨6,.phase⟩,⟨7,.phase⟩,⟨8,.phase⟩,⟨9,.phase⟩,⟨10,.phase⟩,⟨11,.phase⟩,⟨12,.phase⟩,⟨13,.phase⟩,⟨14,.phase⟩,⟨15,.phase⟩,⟨16,.phase⟩,⟨17,.phase⟩],none⟩,⟨some 57,.fieldAddr 38 (.tmp 56) 4,0, "l14_rec_take.go:150",#[⟨18,.data⟩,⟨0,.phase⟩,⟨1,.phase⟩,⟨2,.phase⟩,⟨3,.phase⟩,⟨4,.phase⟩,⟨5,.phase⟩,⟨6,.phase⟩,⟨7,.phase⟩,⟨8,.phase⟩,⟨9,.phase⟩,⟨10,.phase⟩,⟨11,.phase⟩,⟨12,.phase⟩,⟨13,.phase⟩,⟨14,.phase⟩,⟨15,.phase⟩,⟨16,.phase⟩,⟨17,.phase⟩],none⟩,⟨some 58,.fieldAddr 34 (.tmp 57) 0,0, "l14_rec_take.go:150",#[⟨19,.data⟩,⟨0,.phase⟩,⟨1,.phase⟩,⟨2,.phase⟩,⟨3,.phase⟩,⟨4,.phase⟩,⟨5,.phase⟩,⟨6,.phase⟩,⟨7,.phase⟩,⟨8,.phase⟩,⟨9,.phase⟩,⟨10,.phase⟩,⟨11,.phase⟩,⟨12,.phase⟩,⟨13,.phase⟩,⟨14,.phase⟩,⟨15,.phase⟩,⟨16,.phase⟩,⟨17,.phase⟩],none⟩,⟨none,.store 3 (.tmp 58) (.tmp 55),0, "l14_rec_take.go:150",#[⟨20,.data⟩,⟨17,.data⟩,⟨0,.phase⟩,⟨1,.phase⟩,⟨2,.phase⟩,⟨3,.phase⟩,⟨4,.phase⟩,⟨5,.phase⟩,⟨6,.phase⟩,⟨7,.phase⟩,⟨8,.phase⟩,⟨9,.phase⟩,⟨10,.phase⟩,⟨11,.phase⟩,⟨12,.phase⟩,⟨13,.phase⟩,⟨14,.phase⟩,⟨15,.phase⟩,⟨16,.phase⟩,⟨17,.phase⟩],none⟩] true) Q ⟨#[.pointer (some ⟨D,0,none⟩),p1,p2,p3,p4,p5,p6,p7,p8,p9,p10,p11,p12,p13,p14,p15,p16,p17,p18,p19,p20,p21,p22,p23,p24,p25,p26,p27,p28,p29,p30,p31,p32,p33,p34,p35,p36,p37,w0,w1,w2,w3,w4,w5,w6,w7,w8,w9,w10,w11,w12,w13,w14,w15,w16,w17,w18,w19,w20],[]⟩ W:=by
 refine ZL (by kernel_rfl) 21 (fun t:Nat→Value=>#[.pointer (some ⟨D,0,none⟩),p1,p2,p3,p4,p5,p6,p7,p8,p9,p10,p11,p12,p13,p14,p15,p16,p17,p18,p19,p20,p21,p22,p23,p24,p25,p26,p27,p28,p29,p30,p31,p32,p33,p34,p35,p36,p37,t 0,t 1,t 2,t 3,t 4,t 5,t 6,t 7,t 8,t 9,t 10,t 11,t 12,t 13,t 14,t 15,t 16,t 17,t 18,t 19,t 20]) (fun i=>match i with|0=>w0|1=>w1|2=>w2|3=>w3|4=>w4|5=>w5|6=>w6|7=>w7|8=>w8|9=>w9|10=>w10|11=>w11|12=>w12|13=>w13|14=>w14|15=>w15|16=>w16|17=>w17|18=>w18|19=>w19|_=>w20) (rfdReg2G D B qh m ma mc r p W) (fun a X=>∃ (t:Nat→Value) (v3:Value),a=⟨#[.pointer (some ⟨D,0,none⟩),p1,p2,p3,p4,p5,p6,p7,p8,p9,p10,p11,p12,p13,p14,p15,p16,p17,p18,p19,p20,p21,p22,p23,p24,p25,p26,p27,p28,p29,p30,p31,p32,p33,p34,p35,p36,p37,t 0,t 1,t 2,t 3,t 4,t 5,t 6,t 7,t 8,t 9,t 10,t 11,t 12,t 13,t 14,t 15,t 16,t 17,t 18,t 19,t 20],[]⟩∧(∃ Y,X=Y.setCell ⟨B,6,none⟩ (.int .i64 (mxI r.dk.pr m.bal))∧Below W.1.size W Y)) (by kernel_rfl) (by kernel_rfl) (by kernel_rfl) ?_ rfl ?_ ?_ ?_
 ·exact fun _ _ _ _ _ h _=>h
 ·intro i hi t X K hb hg hK
  rcases (show i=0∨i=1∨i=2∨i=3∨i=4∨i=5∨i=6∨i=7∨i=8∨i=9∨i=10∨i=11∨i=12∨i=13∨i=14∨i=15∨i=16∨i=17∨i=18∨i=19∨i=20 by omega) with rfl|rfl|rfl|rfl|rfl|rfl|rfl|rfl|rfl|rfl|rfl|rfl|rfl|rfl|rfl|rfl|rfl|rfl|rfl|rfl|rfl
  ·exact sg
  ·have ea:t 0=.pointer (some ⟨D,0,none⟩):=hg 0 (Wt rfl)
   exact sg
  ·have ea:t 1=.pointer (some ⟨D,0,none⟩):=hg 1 (Wt rfl)
   exact sg
  ·have ea:t 2=.pointer (some ⟨D,0,none⟩):=hg 2 (Wt rfl)
   have f1:=(hb.cell (p:=⟨D,0,none⟩) hD).trans cD0
   exact sg
  ·exact sg
  ·have ea:t 4=.pointer (some ⟨D,0,none⟩):=hg 4 (Wt rfl)
   exact sg
  ·have ea:t 5=.pointer (some ⟨D,0,none⟩):=hg 5 (Wt rfl)
   exact sg
  ·have ea:t 6=.pointer (some ⟨D,0,none⟩):=hg 6 (Wt rfl)
   have f1:=(hb.cell (p:=⟨D,0,none⟩) hD).trans cD0
   exact sg
  ·have ea:t 7=.pointer (some ⟨B,0,none⟩):=hg 7 (Wt rfl)
   exact sg
  ·have ea:t 8=.pointer (some ⟨B,0,none⟩):=hg 8 (Wt rfl)
   exact sg
  ·have ea:t 9=.pointer (some ⟨B,6,none⟩):=hg 9 (Wt rfl)
   exact sg
  ·have ea:t 10=.pointer (some ⟨B,6,none⟩):=hg 10 (Wt rfl)
   have f1:=(hb.cell (p:=⟨B,6,none⟩) hB).trans cB6
   exact sg
  ·exact sg
  ·have ea:t 12=.pointer (some ⟨D,0,none⟩):=hg 12 (Wt rfl)
   exact sg
  ·have ea:t 13=.pointer (some ⟨D,0,none⟩):=hg 13 (Wt rfl)
   exact sg
  ·have ea:t 14=.pointer (some ⟨D,1,none⟩):=hg 14 (Wt rfl)
   exact sg
  ·have ea:t 15=.pointer (some ⟨D,4,none⟩):=hg 15 (Wt rfl)
   have f1:=(hb.cell (p:=⟨D,4,none⟩) hD).trans cD4
   exact sg
  ·have e11:t 11=.int .i64 r.dk.pr:=hg 11 (Wt rfl)
   have e16:t 16=.int .i64 m.bal:=hg 16 (Wt rfl)
   have e11:t 11=.int .i64 r.dk.pr:=hg 11 (Wt rfl)
   have e16:t 16=.int .i64 m.bal:=hg 16 (Wt rfl)
   have h:=hK _ X rfl (br _ _)
   refine Zi rfl rfl ?_
   clear hK hg
   simp only [e11,e16]
   go_simp
   unfold mxI at h
   (try (rw [show max r.dk.pr m.bal=(if r.dk.pr<m.bal then m.bal else r.dk.pr) by omega]))
   simpa [updT,e11,e16] using h
  ·have ea:t 3=.pointer (some ⟨B,0,none⟩):=hg 3 (Wt rfl)
   exact sg
  ·have ea:t 18=.pointer (some ⟨B,0,none⟩):=hg 18 (Wt rfl)
   exact sg
  ·have ea:t 19=.pointer (some ⟨B,6,none⟩):=hg 19 (Wt rfl)
   exact sg
 ·intro t X K hb hg hK
  have e17:t 17=.int .i64 (mxI r.dk.pr m.bal):=hg 17 (by omega)
  have e20:t 20=.pointer (some ⟨B,6,none⟩):=hg 20 (by omega)
  have f1:=(hb.cell (p:=⟨B,6,none⟩) hB).trans cB6
  have f2:=(hb.frozen (p:=⟨B,6,none⟩) hB).trans fB6
  have h:=hK _ (X.setCell ⟨B,6,none⟩ (.int .i64 (mxI r.dk.pr m.bal))) ⟨t,.tuple #[],rfl,X,rfl,hb⟩
  refine Zi rfl rfl ?_
  clear hK hg
  simp only [e17,e20]
  go_simp
  simpa [e17,e20] using h
 ·rintro a X ⟨t,v3,rfl,hp⟩
  exact hQ t v3 X hp
def rfdR (r:Rc) (m:Ms):Rc:=if (r.ld||r.tr)=true∧r.bal<m.bal then prR (ZD r) (mxI r.dk.pr m.bal) else r
theorem apGs0 {P:Prop} (h:P:=by
  have sB13:=Zc (W1:=w) (p:=⟨B,13,none⟩) (v:=.int .i64 r.bal) (H.out.bx.cell 13) H.out.bx.lt
  have hne:Nonempty (GW w):=⟨⟨_,br _ _⟩⟩
  refine Zf (by kernel_rfl) (by kernel_rfl) ?_
  repeat (go_big_quiet_step (fail))
  refine wpQuiet_nil ?_
  rintro w8 ⟨u,hu⟩
  have hw8:Below w.1.size w w8:=hu▸u.prop
  clear hu u hne sD0 sD4 sB11 sB12 sB13
  have HW8:=hid hw8
  have H8:=hid (H.out.grow hw8)
  clear hw8
  have QD:=hid (Uh r p.A B w8 H8.out.bx)
  have d0:=H8.out.dk.cell 0
  have d0a:w8.cell? ⟨D,0,none⟩=some (.pointer (some ⟨B,0,none⟩)):=d0
  clear d0
  go_wp2_with (go_at_call 147;go_must (refine QD.out.mono ?_;rintro e w9 ⟨rfl,hx9,hf9⟩;have X9:=hid hx9;have F9:=hid hf9;clear hx9 hf9))
  have Ha:=hid (H8.out.next (r':=ZD r) (p':=Yo p none none none 0 0 0) X9.out ((H8.out.g.fr F9.out (fun q hq e=>(H8.out.ap q hq).1 e)).calm none none none 0 0 0) (F9.out.mono (fun q hq=>Or.inl hq)) (fun q hq=>Or.inl (Xv hq)))
  clear d0a
  refine rfdReg2 _ _ _ _ _ _ _ _ _ _ _ _ _ _ _ _ _ _ _ _ _ _ _ _ _ _ _ _ _ _ _ _ _ _ _ _ _ _ _ _ _ _ _ _ _ _ _ _ _ _ _ _ _ _ _ _ _ _ D B qh m ma mc (ZD r) (Yo p none none none 0 0 0) w9 Ha.out.dk.lt Ha.out.bx.lt (Ha.out.dk.cell 0) (Ha.out.dk.cell 4) (Ha.out.bx.cell 6) (Ha.out.bx.free 6) _ ?_
  rintro t v3 X ⟨Y,rfl,hbY⟩
  have HY:=hid (Ha.out.grow hbY)
  have HBY:=hid hbY
  clear hbY
  have XX:=hid (HY.out.bx.to (YT HY.out.bx.cell (.int .i64 (mxI r.dk.pr m.bal))))
  have FY:Hid (FrP (fun q=>q=B) Y (Y.setCell ⟨B,6,none⟩ (.int .i64 (mxI r.dk.pr m.bal)))):=hid ((FrP.refl (fun q=>q=B) Y).setCell (p:=⟨B,6,none⟩) rfl _)
  go_wp2
  refine bodyPost_end (results_none rfl _ _ _) rfl ?_
  refine DskAt.after H.out HW8.out (DoR.then (F9.out.mono (fun q hq=>Or.inl hq)) (fun q hq=>Or.inl (Xv hq)) (DskAt.after Ha.out HBY.out ⟨rfl,Yo p none none none 0 0 0,XX.out,?_,FY.out.mono (fun q hq=>Or.inl hq),fun q hq=>Or.inl hq⟩))
  have hg:=HY.out.g.fr FY.out (fun q hq e=>(HY.out.ap q hq).1 e)
  exact ⟨⟨hg.at_.o0,hg.at_.o1,hg.at_.o2,hg.at_.o3,hg.at_.o4,hg.at_.o5,hg.at_.o6,hg.at_.lt,hg.at_.ap⟩,⟨hg.rm.dl,hg.rm.d0,hg.rm.dr,hg.rm.hl,hg.rm.h0,hg.rm.hr⟩⟩):P:=h
theorem apGs2 {P:Prop} (h:P:=by
  have sB13:=Zc (W1:=w) (p:=⟨B,13,none⟩) (v:=.int .i64 r.bal) (H.out.bx.cell 13) H.out.bx.lt
  have hne:Nonempty (GW w):=⟨⟨_,br _ _⟩⟩
  refine Zf (by kernel_rfl) (by kernel_rfl) ?_
  repeat (go_big_quiet_step (fail))
  refine wpQuiet_nil ?_
  rintro w8 ⟨u,hu⟩
  have hw8:Below w.1.size w w8:=hu▸u.prop
  clear hu u hne sD0 sD4 sB11 sB12 sB13
  have HW8:=hid hw8
  have H8:=hid (H.out.grow hw8)
  clear hw8
  go_wp2
  refine bodyPost_end (results_none rfl _ _ _) rfl ?_
  exact H.out.skip HW8.out):P:=h
set_option maxRecDepth 100000 in
theorem refused_do (D B qh:Nat) (m:Ms) (ma:Option Addr) (mc:Nat) (r:Rc) (p:RcP) (w:World) (h:DskAt w D B qh m ma mc r p) :
  Calls Tryz.prog 126 #[.pointer (some ⟨D,0,none⟩)] w fun e w'=>DoR B r p (rfdR r m) w e w':=by
 have H:=hid h
 clear h
 cases h1:r.ld with
 | true=>
  by_cases h3:r.bal<m.bal
  ·skip
   have HT:=hid (show rfdR r m=prR (ZD r) (mxI r.dk.pr m.bal) from if_pos ⟨by simp [h1],h3⟩)
   rw [HT.out]
   go_enter Tryz.func126,Tryz.ntmps126
   go_wp2
   have sD0:=Zc (W1:=w) (p:=⟨D,0,none⟩) (v:=.pointer (some ⟨B,0,none⟩)) (H.out.dk.cell 0) H.out.dk.lt
   have sD4:=Zc (W1:=w) (p:=⟨D,4,none⟩) (v:=.int .i64 m.bal) (H.out.dk.cell 4) H.out.dk.lt
   have sB11:=Zc (W1:=w) (p:=⟨B,11,none⟩) (v:=.bool true) ((H.out.bx.cell 11).trans (congrArg (fun b=>some (Value.bool b)) h1)) H.out.bx.lt
   have sB12:=Zc (W1:=w) (p:=⟨B,12,none⟩) (v:=.bool r.tr) (H.out.bx.cell 12) H.out.bx.lt
   exact apGs0
  ·skip
   have HT:=hid (show rfdR r m=r from if_neg (fun h=>h3 h.2))
   have hz:decide (r.bal<m.bal)=false:=decide_eq_false h3
   rw [HT.out]
   go_enter Tryz.func126,Tryz.ntmps126
   go_wp2
   have sD0:=Zc (W1:=w) (p:=⟨D,0,none⟩) (v:=.pointer (some ⟨B,0,none⟩)) (H.out.dk.cell 0) H.out.dk.lt
   have sD4:=Zc (W1:=w) (p:=⟨D,4,none⟩) (v:=.int .i64 m.bal) (H.out.dk.cell 4) H.out.dk.lt
   have sB11:=Zc (W1:=w) (p:=⟨B,11,none⟩) (v:=.bool true) ((H.out.bx.cell 11).trans (congrArg (fun b=>some (Value.bool b)) h1)) H.out.bx.lt
   have sB12:=Zc (W1:=w) (p:=⟨B,12,none⟩) (v:=.bool r.tr) (H.out.bx.cell 12) H.out.bx.lt
   exact apGs2
 | false=>
  cases h2:r.tr with
  | true=>
   by_cases h3:r.bal<m.bal
   ·skip
    have HT:=hid (show rfdR r m=prR (ZD r) (mxI r.dk.pr m.bal) from if_pos ⟨by simp [h1,h2],h3⟩)
    rw [HT.out]
    go_enter Tryz.func126,Tryz.ntmps126
    go_wp2
    have sD0:=Zc (W1:=w) (p:=⟨D,0,none⟩) (v:=.pointer (some ⟨B,0,none⟩)) (H.out.dk.cell 0) H.out.dk.lt
    have sD4:=Zc (W1:=w) (p:=⟨D,4,none⟩) (v:=.int .i64 m.bal) (H.out.dk.cell 4) H.out.dk.lt
    have sB11:=Zc (W1:=w) (p:=⟨B,11,none⟩) (v:=.bool false) ((H.out.bx.cell 11).trans (congrArg (fun b=>some (Value.bool b)) h1)) H.out.bx.lt
    have sB12:=Zc (W1:=w) (p:=⟨B,12,none⟩) (v:=.bool true) ((H.out.bx.cell 12).trans (congrArg (fun b=>some (Value.bool b)) h2)) H.out.bx.lt
    exact apGs0
   ·skip
    have HT:=hid (show rfdR r m=r from if_neg (fun h=>h3 h.2))
    have hz:decide (r.bal<m.bal)=false:=decide_eq_false h3
    rw [HT.out]
    go_enter Tryz.func126,Tryz.ntmps126
    go_wp2
    have sD0:=Zc (W1:=w) (p:=⟨D,0,none⟩) (v:=.pointer (some ⟨B,0,none⟩)) (H.out.dk.cell 0) H.out.dk.lt
    have sD4:=Zc (W1:=w) (p:=⟨D,4,none⟩) (v:=.int .i64 m.bal) (H.out.dk.cell 4) H.out.dk.lt
    have sB11:=Zc (W1:=w) (p:=⟨B,11,none⟩) (v:=.bool false) ((H.out.bx.cell 11).trans (congrArg (fun b=>some (Value.bool b)) h1)) H.out.bx.lt
    have sB12:=Zc (W1:=w) (p:=⟨B,12,none⟩) (v:=.bool true) ((H.out.bx.cell 12).trans (congrArg (fun b=>some (Value.bool b)) h2)) H.out.bx.lt
    exact apGs2
  | false=>
   have HT:=hid (show rfdR r m=r from if_neg (fun h=>by have:=h.1;simp [h1,h2] at this))
   rw [HT.out]
   go_enter Tryz.func126,Tryz.ntmps126
   go_wp2
   have sD0:=Zc (W1:=w) (p:=⟨D,0,none⟩) (v:=.pointer (some ⟨B,0,none⟩)) (H.out.dk.cell 0) H.out.dk.lt
   have sD4:=Zc (W1:=w) (p:=⟨D,4,none⟩) (v:=.int .i64 m.bal) (H.out.dk.cell 4) H.out.dk.lt
   have sB11:=Zc (W1:=w) (p:=⟨B,11,none⟩) (v:=.bool false) ((H.out.bx.cell 11).trans (congrArg (fun b=>some (Value.bool b)) h1)) H.out.bx.lt
   have sB12:=Zc (W1:=w) (p:=⟨B,12,none⟩) (v:=.bool false) ((H.out.bx.cell 12).trans (congrArg (fun b=>some (Value.bool b)) h2)) H.out.bx.lt
   exact apGs2
def preReg3G (D B qh:Nat) (m:Ms) (_ma:Option Addr) (_mc:Nat) (r:Rc) (p:RcP) (_R:World→Prop) (W:World) (i:Nat) (v:Value) (X:World):Prop:=
 match i with
 | 0=>v=.pointer (some ⟨D,0,none⟩)
 | 1=>v=.pointer (some ⟨D,0,none⟩)
 | 2=>v=.pointer (some ⟨D,9,none⟩)
 | 3=>v=.func (.func 150) #[] #[.pointer (some ⟨qh,0,none⟩)]
 | 4=>v=.pointer (some ⟨D,0,none⟩)
 | 5=>v=.pointer (some ⟨D,0,none⟩)
 | 6=>v=.pointer (some ⟨D,1,none⟩)
 | 7=>v=.pointer (some ⟨D,2,none⟩)
 | 8=>v=.int .i64 m.from_
 | 9=>v=.pointer (some ⟨D,0,none⟩)
 | 10=>v=.pointer (some ⟨D,0,none⟩)
 | 11=>v=.pointer (some ⟨D,1,none⟩)
 | 12=>v=.pointer (some ⟨D,4,none⟩)
 | 13=>v=.int .i64 m.bal
 | 14=>v=.pointer (some ⟨D,0,none⟩)
 | 15=>v=.pointer (some ⟨D,0,none⟩)
 | 16=>v=.pointer (some ⟨D,0,none⟩)
 | 17=>v=.pointer (some ⟨B,0,none⟩)
 | 18=>v=.pointer (some ⟨B,0,none⟩)
 | 19=>v=.pointer (some ⟨B,6,none⟩)
 | 20=>v=.pointer (some ⟨B,8,none⟩)
 | 21=>v=.slice p.A.da r.dk.n p.A.dc
 | 22=>∃ ad b',v=.slice ad r.dk.n r.dk.n∧SlsAt X ad b' r.dk.n r.dk.s∧(r.dk.n≠0→W.1.size≤b'∧b'<X.1.size)
 | 23=>∃ ad b',v=.agg #[.int .i64 2,.int .i64 0,.int .i64 m.from_,.int .i64 m.bal,.int .i64 0,.int .i64 0,.string ⟨#[]⟩,.slice ad r.dk.n r.dk.n]∧SlsAt X ad b' r.dk.n r.dk.s∧(r.dk.n≠0→W.1.size≤b'∧b'<X.1.size)
 | _=>True
theorem apGs7 {P:Prop} (h:P:=by
  obtain ⟨ad,b',e1,e2,e3⟩:=h
  exact ⟨ad,b',e1,e2.frP (FrP.of_below (P:=fun _=>False) hb) (fun h0=>⟨fun h=>h,(e3 h0).2⟩),fun h0=>⟨(e3 h0).1,ltl (e3 h0).2 hb.size⟩⟩):P:=h
set_option maxRecDepth 100000 in
theorem preReg3 (p1 p2 p3 p4 p5 p6 p7 p8 p9 p10 p11 p12 p13 p14 p15 p16 p17 p18 p19 p20 p21 p22 p23 p24 p25 p26 p27 p52:Value) (w0 w1 w2 w3 w4 w5 w6 w7 w8 w9 w10 w11 w12 w13 w14 w15 w16 w17 w18 w19 w20 w21 w22 w23:Value) (D B qh:Nat) (m:Ms) (ma:Option Addr) (mc:Nat) (r:Rc) (p:RcP) (R:World→Prop) (W:World) (hD:D<W.1.size) (hB:B<W.1.size) (cB8:W.cell? ⟨B,8,none⟩=some (.slice p.A.da r.dk.n p.A.dc)) (cD0:W.cell? ⟨D,0,none⟩=some (.pointer (some ⟨B,0,none⟩))) (cD2:W.cell? ⟨D,2,none⟩=some (.int .i64 m.from_)) (cD4:W.cell? ⟨D,4,none⟩=some (.int .i64 m.bal)) (cD9:W.cell? ⟨D,9,none⟩=some (.func (.func 150) #[] #[.pointer (some ⟨qh,0,none⟩)])) (hdn:r.dk.n≤1000) (hin:SlsIn W 0 W.1.size p.A.da r.dk.n r.dk.s) (hQc:∀ X ad b',Below W.1.size W X→SlsAt X ad b' r.dk.n r.dk.s→(r.dk.n≠0→W.1.size≤b'∧b'<X.1.size)→Calls Tryz.prog 150 #[.agg #[.int .i64 2,.int .i64 0,.int .i64 m.from_,.int .i64 m.bal,.int .i64 0,.int .i64 0,.string ⟨#[]⟩,.slice ad r.dk.n r.dk.n],.pointer (some ⟨qh,0,none⟩)] X fun e w'=>e=.returned (.tuple #[])∧R w') (Q:Exit→Act→World→Prop) (hQ:∀ (t:Nat→Value) (v3:Value) X,R X→Q .normal ⟨#[.pointer (some ⟨D,0,none⟩),p1,p2,p3,p4,p5,p6,p7,p8,p9,p10,p11,p12,p13,p14,p15,p16,p17,p18,p19,p20,p21,p22,p23,p24,p25,p26,p27,t 0,t 1,t 2,t 3,t 4,t 5,t 6,t 7,t 8,t 9,t 10,t 11,t 12,t 13,t 14,t 15,t 16,t 17,t 18,t 19,t 20,t 21,t 22,t 23,v3],[]⟩ X) :
  Code.wp Tryz.prog (Code.region 3 #[⟨some 28,.move (.tmp 0),151, "l14_rec_take.go:72",#[],none⟩,⟨some 29,.nilCheck (.tmp 28),0, "l14_rec_take.go:72",#[⟨0,.data⟩],none⟩,⟨some 30,.fieldAddr 134 (.tmp 29) 2,0, "l14_rec_take.go:72",#[⟨1,.data⟩],none⟩,⟨some 31,.load 131 (.tmp 30),131, "l14_rec_take.go:72",#[⟨2,.data⟩],none⟩,⟨some 32,.move (.tmp 0),151, "l14_rec_take.go:72",#[],none⟩,⟨some 33,.nilCheck (.tmp 32),0, "l14_rec_take.go:72",#[⟨4,.data⟩],none⟩,⟨some 34,.fieldAddr 134 (.tmp 33) 1,0, "l14_rec_take.go:72",#[⟨5,.data⟩],none⟩,⟨some 35,.fieldAddr 52 (.tmp 34) 1,0, "l14_rec_take.go:72",#[⟨6,.data⟩],none⟩,⟨some 36,.load 3 (.tmp 35),3, "l14_rec_take.go:72",#[⟨7,.data⟩],none⟩,⟨some 37,.move (.tmp 0),151, "l14_rec_take.go:72",#[],none⟩,⟨some 38,.nilCheck (.tmp 37),0, "l14_rec_take.go:72",#[⟨9,.data⟩],none⟩,⟨some 39,.fieldAddr 134 (.tmp 38) 1,0, "l14_rec_take.go:72",#[⟨10,.data⟩],none⟩,⟨some 40,.fieldAddr 52 (.tmp 39) 3,0, "l14_rec_take.go:72",#[⟨11,.data⟩],none⟩,⟨some 41,.load 3 (.tmp 40),3, "l14_rec_take.go:72",#[⟨12,.data⟩],none⟩,⟨some 42,.move (.tmp 0),151, "l14_rec_take.go:72",#[],none⟩,⟨some 43,.nilCheck (.tmp 42),0, "l14_rec_take.go:72",#[⟨14,.data⟩],none⟩,⟨some 44,.fieldAddr 134 (.tmp 43) 0,0, "l14_rec_take.go:72",#[⟨15,.data⟩],none⟩,⟨some 45,.load 81 (.tmp 44),81, "l14_rec_take.go:72",#[⟨16,.data⟩],none⟩,⟨some 46,.nilCheck (.tmp 45),0, "l14_rec_take.go:72",#[⟨17,.data⟩],none⟩,⟨some 47,.fieldAddr 38 (.tmp 46) 4,0, "l14_rec_take.go:72",#[⟨18,.data⟩],none⟩,⟨some 48,.fieldAddr 34 (.tmp 47) 2,0, "l14_rec_take.go:72",#[⟨19,.data⟩],none⟩,⟨some 49,.load 32 (.tmp 48),32, "l14_rec_take.go:72",#[⟨20,.data⟩],none⟩,⟨some 50,.call ⟨.value (.func 103),#[.tmp 49],#[32]⟩,32, "l14_rec_take.go:72",#[⟨21,.data⟩],none⟩,⟨some 51,.build 52 #[(0,.const (.int .i64 2)),(2,.tmp 36),(3,.tmp 41),(7,.tmp 50)],52, "l14_rec_take.go:72",#[⟨8,.data⟩,⟨13,.data⟩,⟨22,.data⟩],none⟩,⟨some 52,.call ⟨.value (.tmp 31),#[.tmp 51],#[52]⟩,0, "l14_rec_take.go:72",#[⟨3,.data⟩,⟨23,.data⟩,⟨22,.chain⟩],none⟩] true) Q ⟨#[.pointer (some ⟨D,0,none⟩),p1,p2,p3,p4,p5,p6,p7,p8,p9,p10,p11,p12,p13,p14,p15,p16,p17,p18,p19,p20,p21,p22,p23,p24,p25,p26,p27,w0,w1,w2,w3,w4,w5,w6,w7,w8,w9,w10,w11,w12,w13,w14,w15,w16,w17,w18,w19,w20,w21,w22,w23,p52],[]⟩ W:=by
 refine ZL (by kernel_rfl) 24 (fun t:Nat→Value=>#[.pointer (some ⟨D,0,none⟩),p1,p2,p3,p4,p5,p6,p7,p8,p9,p10,p11,p12,p13,p14,p15,p16,p17,p18,p19,p20,p21,p22,p23,p24,p25,p26,p27,t 0,t 1,t 2,t 3,t 4,t 5,t 6,t 7,t 8,t 9,t 10,t 11,t 12,t 13,t 14,t 15,t 16,t 17,t 18,t 19,t 20,t 21,t 22,t 23,p52]) (fun i=>match i with|0=>w0|1=>w1|2=>w2|3=>w3|4=>w4|5=>w5|6=>w6|7=>w7|8=>w8|9=>w9|10=>w10|11=>w11|12=>w12|13=>w13|14=>w14|15=>w15|16=>w16|17=>w17|18=>w18|19=>w19|20=>w20|21=>w21|22=>w22|_=>w23) (preReg3G D B qh m ma mc r p R W) (fun a X=>∃ (t:Nat→Value) (v3:Value),a=⟨#[.pointer (some ⟨D,0,none⟩),p1,p2,p3,p4,p5,p6,p7,p8,p9,p10,p11,p12,p13,p14,p15,p16,p17,p18,p19,p20,p21,p22,p23,p24,p25,p26,p27,t 0,t 1,t 2,t 3,t 4,t 5,t 6,t 7,t 8,t 9,t 10,t 11,t 12,t 13,t 14,t 15,t 16,t 17,t 18,t 19,t 20,t 21,t 22,t 23,v3],[]⟩∧R X) (by kernel_rfl) (by kernel_rfl) (by kernel_rfl) ?_ rfl ?_ ?_ ?_
 ·intro i v X Y hi h hb
  rcases (show i=0∨i=1∨i=2∨i=3∨i=4∨i=5∨i=6∨i=7∨i=8∨i=9∨i=10∨i=11∨i=12∨i=13∨i=14∨i=15∨i=16∨i=17∨i=18∨i=19∨i=20∨i=21∨i=22∨i=23 by omega) with rfl|rfl|rfl|rfl|rfl|rfl|rfl|rfl|rfl|rfl|rfl|rfl|rfl|rfl|rfl|rfl|rfl|rfl|rfl|rfl|rfl|rfl|rfl|rfl
  ·exact h
  ·exact h
  ·exact h
  ·exact h
  ·exact h
  ·exact h
  ·exact h
  ·exact h
  ·exact h
  ·exact h
  ·exact h
  ·exact h
  ·exact h
  ·exact h
  ·exact h
  ·exact h
  ·exact h
  ·exact h
  ·exact h
  ·exact h
  ·exact h
  ·exact h
  ·exact apGs7
  ·exact apGs7
 ·intro i hi t X K hb hg hK
  rcases (show i=0∨i=1∨i=2∨i=3∨i=4∨i=5∨i=6∨i=7∨i=8∨i=9∨i=10∨i=11∨i=12∨i=13∨i=14∨i=15∨i=16∨i=17∨i=18∨i=19∨i=20∨i=21∨i=22∨i=23 by omega) with rfl|rfl|rfl|rfl|rfl|rfl|rfl|rfl|rfl|rfl|rfl|rfl|rfl|rfl|rfl|rfl|rfl|rfl|rfl|rfl|rfl|rfl|rfl|rfl
  ·exact sg
  ·have ea:t 0=.pointer (some ⟨D,0,none⟩):=hg 0 (Wt rfl)
   exact sg
  ·have ea:t 1=.pointer (some ⟨D,0,none⟩):=hg 1 (Wt rfl)
   exact sg
  ·have ea:t 2=.pointer (some ⟨D,9,none⟩):=hg 2 (Wt rfl)
   have f1:=(hb.cell (p:=⟨D,9,none⟩) hD).trans cD9
   exact sg
  ·exact sg
  ·have ea:t 4=.pointer (some ⟨D,0,none⟩):=hg 4 (Wt rfl)
   exact sg
  ·have ea:t 5=.pointer (some ⟨D,0,none⟩):=hg 5 (Wt rfl)
   exact sg
  ·have ea:t 6=.pointer (some ⟨D,1,none⟩):=hg 6 (Wt rfl)
   exact sg
  ·have ea:t 7=.pointer (some ⟨D,2,none⟩):=hg 7 (Wt rfl)
   have f1:=(hb.cell (p:=⟨D,2,none⟩) hD).trans cD2
   exact sg
  ·exact sg
  ·have ea:t 9=.pointer (some ⟨D,0,none⟩):=hg 9 (Wt rfl)
   exact sg
  ·have ea:t 10=.pointer (some ⟨D,0,none⟩):=hg 10 (Wt rfl)
   exact sg
  ·have ea:t 11=.pointer (some ⟨D,1,none⟩):=hg 11 (Wt rfl)
   exact sg
  ·have ea:t 12=.pointer (some ⟨D,4,none⟩):=hg 12 (Wt rfl)
   have f1:=(hb.cell (p:=⟨D,4,none⟩) hD).trans cD4
   exact sg
  ·exact sg
  ·have ea:t 14=.pointer (some ⟨D,0,none⟩):=hg 14 (Wt rfl)
   exact sg
  ·have ea:t 15=.pointer (some ⟨D,0,none⟩):=hg 15 (Wt rfl)
   exact sg
  ·have ea:t 16=.pointer (some ⟨D,0,none⟩):=hg 16 (Wt rfl)
   have f1:=(hb.cell (p:=⟨D,0,none⟩) hD).trans cD0
   exact sg
  ·have ea:t 17=.pointer (some ⟨B,0,none⟩):=hg 17 (Wt rfl)
   exact sg
  ·have ea:t 18=.pointer (some ⟨B,0,none⟩):=hg 18 (Wt rfl)
   exact sg
  ·have ea:t 19=.pointer (some ⟨B,6,none⟩):=hg 19 (Wt rfl)
   exact sg
  ·have ea:t 20=.pointer (some ⟨B,8,none⟩):=hg 20 (Wt rfl)
   have f1:=(hb.cell (p:=⟨B,8,none⟩) hB).trans cB8
   exact sg
  ·have e21:t 21=.slice p.A.da r.dk.n p.A.dc:=hg 21 (Wt rfl)
   have e21:t 21=.slice p.A.da r.dk.n p.A.dc:=hg 21 (Wt rfl)
   refine Zi rfl rfl ?_
   have HK:=hid hK
   have HI:=hid (hin.below hb (lrf _))
   clear hK hg hin
   simp only [e21]
   go_simp
   go_at_call 103
   refine (XH r.dk.n r.dk.s p.A.da p.A.dc X 0 W.1.size hb.size (by omega) HI.out).mono ?_
   rintro e Y ⟨ad',rfl,ho,hlt,hbY,_⟩
   have h:=HK.out _ Y ⟨ad',X.1.size,rfl,ho,fun h0=>⟨hb.size,hlt h0⟩⟩ hbY
   simpa [updT,e21] using h
  ·have e8:t 8=.int .i64 m.from_:=hg 8 (Wt rfl)
   have e13:t 13=.int .i64 m.bal:=hg 13 (Wt rfl)
   have e8:t 8=.int .i64 m.from_:=hg 8 (Wt rfl)
   have e13:t 13=.int .i64 m.bal:=hg 13 (Wt rfl)
   obtain ⟨ad,b',e22,k1,k2⟩:∃ ad b',t 22=.slice ad r.dk.n r.dk.n∧SlsAt X ad b' r.dk.n r.dk.s∧(r.dk.n≠0→W.1.size≤b'∧b'<X.1.size):=hg 22 (Wt rfl)
   have h:=hK (.agg #[.int .i64 2,.int .i64 0,.int .i64 m.from_,.int .i64 m.bal,.int .i64 0,.int .i64 0,.string ⟨#[]⟩,.slice ad r.dk.n r.dk.n]) X ⟨ad,b',rfl,k1,k2⟩ (br _ _)
   refine Zi rfl rfl ?_
   clear hK hg
   simp only [e8,e13,e22]
   go_simp
   simpa [updT,e8,e13,e22] using h
 ·intro t X K hb hg hK
  obtain ⟨ad,b',eM,k1,k2⟩:∃ ad b',t 23=.agg #[.int .i64 2,.int .i64 0,.int .i64 m.from_,.int .i64 m.bal,.int .i64 0,.int .i64 0,.string ⟨#[]⟩,.slice ad r.dk.n r.dk.n]∧SlsAt X ad b' r.dk.n r.dk.s∧(r.dk.n≠0→W.1.size≤b'∧b'<X.1.size):=hg 23 (by omega)
  have eF:t 3=.func (.func 150) #[] #[.pointer (some ⟨qh,0,none⟩)]:=hg 3 (by omega)
  refine Zi rfl rfl ?_
  have HK:=hid hK
  have HC:=hid (hQc X ad b' hb k1 k2)
  clear hK hg hQc k1 k2
  simp only [eF,eM]
  go_simp
  go_at_call 150
  refine HC.out.mono ?_
  rintro e Y ⟨rfl,hR⟩
  have h:=HK.out _ Y ⟨t,.tuple #[],rfl,hR⟩
  simpa [eF,eM] using h
 ·rintro a X ⟨t,v3,rfl,hp⟩
  exact hQ t v3 X hp
def preR (r:Rc) (m:Ms):Rc:=if m.bal≤r.dk.pr then Zo r ⟨9,0,m.from_,r.dk.pr,0,0,⟨#[]⟩,0,fun _=>⟨0,⟨#[]⟩⟩⟩ else Zo (Zl r m.bal) ⟨2,0,m.from_,m.bal,0,0,⟨#[]⟩,(Zl r m.bal).dk.n,(Zl r m.bal).dk.s⟩
theorem Ke (r:Rc) (b:Int):(Zl r b).dk.n=r.dk.n:=by unfold Zl;split<;>rfl
set_option maxRecDepth 100000 in
theorem prepare_do (D B qh:Nat) (m:Ms) (ma:Option Addr) (mc:Nat) (r:Rc) (p:RcP) (w:World) (h:DskAt w D B qh m ma mc r p) (hdn:r.dk.n≤60) :
  Calls Tryz.prog 118 #[.pointer (some ⟨D,0,none⟩)] w fun e w'=>DoR B r p (preR r m) w e w':=by
 have H:=hid h
 clear h
 by_cases h1:m.bal≤r.dk.pr
 ·skip
  have HT:=hid (show preR r m=Zo r ⟨9,0,m.from_,r.dk.pr,0,0,⟨#[]⟩,0,fun _=>⟨0,⟨#[]⟩⟩⟩ from if_pos h1)
  rw [HT.out]
  go_enter Tryz.func118,Tryz.ntmps118
  exact apGs3
 ·skip
  have HT:=hid (show preR r m=Zo (Zl r m.bal) ⟨2,0,m.from_,m.bal,0,0,⟨#[]⟩,(Zl r m.bal).dk.n,(Zl r m.bal).dk.s⟩ from if_neg h1)
  rw [HT.out]
  have h1z:decide (m.bal≤r.dk.pr)=false:=decide_eq_false h1
  go_enter Tryz.func118,Tryz.ntmps118
  go_wp2
  have sD0:=Zc (W1:=w) (p:=⟨D,0,none⟩) (v:=.pointer (some ⟨B,0,none⟩)) (H.out.dk.cell 0) H.out.dk.lt
  have sD4:=Zc (W1:=w) (p:=⟨D,4,none⟩) (v:=.int .i64 m.bal) (H.out.dk.cell 4) H.out.dk.lt
  have sB6:=Zc (W1:=w) (p:=⟨B,6,none⟩) (v:=.int .i64 r.dk.pr) (H.out.bx.cell 6) H.out.bx.lt
  have hne:Nonempty (GW w):=⟨⟨_,br _ _⟩⟩
  refine Zf (by kernel_rfl) (by kernel_rfl) ?_
  repeat (go_big_quiet_step (fail))
  refine wpQuiet_nil ?_
  rintro w8 ⟨u,hu⟩
  have hw8:Below w.1.size w w8:=hu▸u.prop
  clear hu u hne sD0 sD4 sB6
  have HW8:=hid hw8
  have H8:=hid (H.out.grow hw8)
  clear hw8
  go_wp2
  refine preReg2 _ _ _ _ _ _ _ _ _ _ _ _ _ _ _ _ _ _ _ _ _ _ _ _ _ _ _ _ _ _ _ _ _ _ _ _ _ _ _ _ _ _ _ _ _ _ _ _ _ _ _ _ D B qh m ma mc r p (fun w'=>DoR B r p (Zl r m.bal) w8 (.returned (.tuple #[])) w') w8 H8.out.dk.lt H8.out.bx.lt (H8.out.dk.cell 0) (H8.out.dk.cell 4) (fun X hb=>(Ja D B qh m ma mc r p X (H8.out.grow hb) m.bal).mono fun e w' hd=>⟨hd.1,by have h9:=DskAt.after H8.out hb hd;rw [hd.1] at h9;exact h9⟩) _ ?_
  intro twb vwb wb hdo
  obtain ⟨_,p1,x1,g1,f1,s1⟩:=hdo
  have Hb:=hid (H8.out.next x1 g1 f1 s1)
  have Fwb:=hid f1
  have Swb:=hid s1
  have Dwb:=hid (show DoR B r p (Zl r m.bal) w8 (.returned (.tuple #[])) wb from ⟨rfl,p1,x1,g1,f1,s1⟩)
  clear x1 g1 f1 s1
  have hn1:=Ke r m.bal
  obtain ⟨r1,hr1⟩:∃ r1,Zl r m.bal=r1:=⟨_,rfl⟩
  rw [hr1] at Hb Swb hn1
  have HR1:=hid hr1
  clear hr1
  go_wp2
  refine preReg3 _ _ _ _ _ _ _ _ _ _ _ _ _ _ _ _ _ _ _ _ _ _ _ _ _ _ _ _ _ _ _ _ _ _ _ _ _ _ _ _ _ _ _ _ _ _ _ _ _ _ _ _ D B qh m ma mc r1 p1 (fun w'=>DoR B r1 p1 (Zo r1 ⟨2,0,m.from_,m.bal,0,0,⟨#[]⟩,r1.dk.n,r1.dk.s⟩) wb (.returned (.tuple #[])) w') wb Hb.out.dk.lt Hb.out.bx.lt (Hb.out.bx.cell 8) (Hb.out.dk.cell 0) (Hb.out.dk.cell 2) (Hb.out.dk.cell 4) (Hb.out.dk.cell 9) (by omega) (Hb.out.g.at_.o1.isInG (fun h0=>Zr Hb.out.g.at_ (j:=1) (by omega) ⟨h0,rfl⟩)) (fun X ad b' hb hs hl=>(Un D B qh m ma mc r1 p1 X (Hb.out.grow hb) ⟨2,0,m.from_,m.bal,0,0,⟨#[]⟩,r1.dk.n,r1.dk.s⟩ ad r1.dk.n b' hs (fun h0=>⟨(hl h0).2,fun hq=>by have:=Hb.out.g.at_.lt b' hq;have:=(hl h0).1;omega,by have:=Hb.out.bx.lt;have:=(hl h0).1;omega⟩) wb hb (fun h0=>(hl h0).1)).mono fun e w' hd=>⟨hd.1,by have h9:=hd;rw [hd.1] at h9;exact h9⟩) _ ?_
  intro t v3 X hdo
  have HD:=hid hdo
  clear hdo
  go_wp2
  refine bodyPost_end (results_none rfl _ _ _) rfl ?_
  have e1:=HR1.out
  subst e1
  exact DskAt.after H.out HW8.out (DoR.then Fwb.out Swb.out HD.out)
def DoA (B:Nat) (r:Rc) (p:RcP) (r':Rc) (w:World) (e:Ending) (w':World):Prop:=
 e=.returned (.tuple #[])∧∃ p',Bx w' B (rcC r' p'.A)∧RcAt w' r' p'∧FrP (fun q=>q=B∨rbs p r q) w w'∧(∀ q,rbs p' r' q→rbs p r q∨w.1.size≤q)
theorem DoR.a {B:Nat} {r:Rc} {p:RcP} {r':Rc} {w:World} {e:Ending} {w':World} (h:DoR B r p r' w e w'):DoA B r p r' w e w':=by
 obtain ⟨he,p',x,g,f,s⟩:=h
 exact ⟨he,p',x,g.at_,f,s⟩
set_option maxRecDepth 100000 in
theorem wished_do (D B qh:Nat) (m:Ms) (ma:Option Addr) (mc:Nat) (r:Rc) (p:RcP) (w:World) (h:DskAt w D B qh m ma mc r p) (hm:ZW r) (ht:JB r p.A) (hk0:0≤r.dk.kn) (hk1:r.dk.kn≤r.dk.n) (ha:(m.text.size:Int)≤140737488355328) :
  Calls Tryz.prog 125 #[.pointer (some ⟨D,0,none⟩)] w fun e w'=>DoA B r p (Yg r m.text) w e w':=by
 have H:=hid h
 clear h
 go_enter Tryz.func125,Tryz.ntmps125
 go_wp2
 refine wisReg0 _ _ _ _ _ _ _ _ _ _ _ D B qh m ma mc r p (fun w'=>DoA B r p (Yg r m.text) w (.returned (.tuple #[])) w') w H.out.dk.lt H.out.bx.lt (H.out.dk.cell 0) (H.out.dk.cell 7) (fun X hb=>(wishInto_any r p B m.text X hm (H.out.grow hb).bx (H.out.grow hb).g.at_ (fun k hk e=>(H.out.ap k hk).1 e) ht hk0 hk1 ha).mono fun e w' ⟨he,p',x1,a1,s1,f1⟩=>⟨he,rfl,p',x1,a1,(FrP.of_below hb).trans2 f1 (fun q _ e=>Or.inl e),fun q hq=>by
  rcases s1 q hq with h|h
  ·exact Or.inl h
  ·exact Or.inr (ltr hb.size h)⟩) _ ?_
 intro t v3 X hdo
 have HD:=hid hdo
 clear hdo
 go_wp2
 refine bodyPost_end (results_none rfl _ _ _) rfl ?_
 exact HD.out
def needReg6G (iv:Int) (tx:ByteArray) (D B qh:Nat) (m:Ms) (_ma:Option Addr) (_mc:Nat) (r:Rc) (_p:RcP) (_R:World→Prop) (_W:World) (i:Nat) (v:Value) (_X:World):Prop:=
 match i with
 | 0=>v=.pointer (some ⟨D,0,none⟩)
 | 1=>v=.pointer (some ⟨D,0,none⟩)
 | 2=>v=.pointer (some ⟨D,9,none⟩)
 | 3=>v=.func (.func 150) #[] #[.pointer (some ⟨qh,0,none⟩)]
 | 4=>v=.pointer (some ⟨D,0,none⟩)
 | 5=>v=.pointer (some ⟨D,0,none⟩)
 | 6=>v=.pointer (some ⟨D,1,none⟩)
 | 7=>v=.pointer (some ⟨D,2,none⟩)
 | 8=>v=.int .i64 m.from_
 | 9=>v=.pointer (some ⟨D,0,none⟩)
 | 10=>v=.pointer (some ⟨D,0,none⟩)
 | 11=>v=.pointer (some ⟨D,0,none⟩)
 | 12=>v=.pointer (some ⟨B,0,none⟩)
 | 13=>v=.pointer (some ⟨B,0,none⟩)
 | 14=>v=.pointer (some ⟨B,13,none⟩)
 | 15=>v=.int .i64 r.bal
 | 16=>v=.int .i64 iv
 | 17=>v=.string tx
 | 18=>v=.agg #[.int .i64 6,.int .i64 0,.int .i64 m.from_,.int .i64 r.bal,.int .i64 iv,.int .i64 0,.string tx,.slice none 0 0]
 | _=>True
set_option maxRecDepth 100000 in
theorem needReg6 (p1 p2 p5 p6 p7 p8 p9 p10 p11 p12 p13 p14 p15 p16 p17 p18 p19 p20 p21 p22 p23 p24 p25 p26 p27 p28 p29 p30 p31 p32 p33 p34 p35 p36 p37 p38 p39 p40 p41 p42 p43 p44 p45 p46 p47 p48 p49 p50 p51 p52 p53 p54 p55 p56 p57 p58 p78:Value) (w0 w1 w2 w3 w4 w5 w6 w7 w8 w9 w10 w11 w12 w13 w14 w15 w16 w17 w18:Value) (iv:Int) (tx:ByteArray) (D B qh:Nat) (m:Ms) (ma:Option Addr) (mc:Nat) (r:Rc) (p:RcP) (R:World→Prop) (W:World) (hD:D<W.1.size) (hB:B<W.1.size) (cB13:W.cell? ⟨B,13,none⟩=some (.int .i64 r.bal)) (cD0:W.cell? ⟨D,0,none⟩=some (.pointer (some ⟨B,0,none⟩))) (cD2:W.cell? ⟨D,2,none⟩=some (.int .i64 m.from_)) (cD9:W.cell? ⟨D,9,none⟩=some (.func (.func 150) #[] #[.pointer (some ⟨qh,0,none⟩)])) (hQc:∀ X,Below W.1.size W X→Calls Tryz.prog 150 #[.agg #[.int .i64 6,.int .i64 0,.int .i64 m.from_,.int .i64 r.bal,.int .i64 iv,.int .i64 0,.string tx,.slice none 0 0],.pointer (some ⟨qh,0,none⟩)] X fun e w'=>e=.returned (.tuple #[])∧R w') (Q:Exit→Act→World→Prop) (hQ:∀ (t:Nat→Value) (v3:Value) X,R X→Q .normal ⟨#[.pointer (some ⟨D,0,none⟩),p1,p2,.int .i64 iv,.string tx,p5,p6,p7,p8,p9,p10,p11,p12,p13,p14,p15,p16,p17,p18,p19,p20,p21,p22,p23,p24,p25,p26,p27,p28,p29,p30,p31,p32,p33,p34,p35,p36,p37,p38,p39,p40,p41,p42,p43,p44,p45,p46,p47,p48,p49,p50,p51,p52,p53,p54,p55,p56,p57,p58,t 0,t 1,t 2,t 3,t 4,t 5,t 6,t 7,t 8,t 9,t 10,t 11,t 12,t 13,t 14,t 15,t 16,t 17,t 18,v3],[]⟩ X) :
  Code.wp Tryz.prog (Code.region 6 #[⟨some 59,.move (.tmp 0),151, "l14_rec_take.go:138",#[],none⟩,⟨some 60,.nilCheck (.tmp 59),0, "l14_rec_take.go:138",#[⟨0,.data⟩],none⟩,⟨some 61,.fieldAddr 134 (.tmp 60) 2,0, "l14_rec_take.go:138",#[⟨1,.data⟩],none⟩,⟨some 62,.load 131 (.tmp 61),131, "l14_rec_take.go:138",#[⟨2,.data⟩],none⟩,⟨some 63,.move (.tmp 0),151, "l14_rec_take.go:138",#[],none⟩,⟨some 64,.nilCheck (.tmp 63),0, "l14_rec_take.go:138",#[⟨4,.data⟩],none⟩,⟨some 65,.fieldAddr 134 (.tmp 64) 1,0, "l14_rec_take.go:138",#[⟨5,.data⟩],none⟩,⟨some 66,.fieldAddr 52 (.tmp 65) 1,0, "l14_rec_take.go:138",#[⟨6,.data⟩],none⟩,⟨some 67,.load 3 (.tmp 66),3, "l14_rec_take.go:138",#[⟨7,.data⟩],none⟩,⟨some 68,.move (.tmp 0),151, "l14_rec_take.go:138",#[],none⟩,⟨some 69,.nilCheck (.tmp 68),0, "l14_rec_take.go:138",#[⟨9,.data⟩],none⟩,⟨some 70,.fieldAddr 134 (.tmp 69) 0,0, "l14_rec_take.go:138",#[⟨10,.data⟩],none⟩,⟨some 71,.load 81 (.tmp 70),81, "l14_rec_take.go:138",#[⟨11,.data⟩],none⟩,⟨some 72,.nilCheck (.tmp 71),0, "l14_rec_take.go:138",#[⟨12,.data⟩],none⟩,⟨some 73,.fieldAddr 38 (.tmp 72) 9,0, "l14_rec_take.go:138",#[⟨13,.data⟩],none⟩,⟨some 74,.load 3 (.tmp 73),3, "l14_rec_take.go:138",#[⟨14,.data⟩],none⟩,⟨some 75,.move (.tmp 3),3, "l14_rec_take.go:138",#[],none⟩,⟨some 76,.move (.tmp 4),9, "l14_rec_take.go:138",#[],none⟩,⟨some 77,.build 52 #[(0,.const (.int .i64 6)),(2,.tmp 67),(3,.tmp 74),(4,.tmp 75),(6,.tmp 76)],52, "l14_rec_take.go:138",#[⟨8,.data⟩,⟨15,.data⟩,⟨16,.data⟩,⟨17,.data⟩],none⟩,⟨some 78,.call ⟨.value (.tmp 62),#[.tmp 77],#[52]⟩,0, "l14_rec_take.go:138",#[⟨3,.data⟩,⟨18,.data⟩],none⟩] true) Q ⟨#[.pointer (some ⟨D,0,none⟩),p1,p2,.int .i64 iv,.string tx,p5,p6,p7,p8,p9,p10,p11,p12,p13,p14,p15,p16,p17,p18,p19,p20,p21,p22,p23,p24,p25,p26,p27,p28,p29,p30,p31,p32,p33,p34,p35,p36,p37,p38,p39,p40,p41,p42,p43,p44,p45,p46,p47,p48,p49,p50,p51,p52,p53,p54,p55,p56,p57,p58,w0,w1,w2,w3,w4,w5,w6,w7,w8,w9,w10,w11,w12,w13,w14,w15,w16,w17,w18,p78],[]⟩ W:=by
 refine ZL (by kernel_rfl) 19 (fun t:Nat→Value=>#[.pointer (some ⟨D,0,none⟩),p1,p2,.int .i64 iv,.string tx,p5,p6,p7,p8,p9,p10,p11,p12,p13,p14,p15,p16,p17,p18,p19,p20,p21,p22,p23,p24,p25,p26,p27,p28,p29,p30,p31,p32,p33,p34,p35,p36,p37,p38,p39,p40,p41,p42,p43,p44,p45,p46,p47,p48,p49,p50,p51,p52,p53,p54,p55,p56,p57,p58,t 0,t 1,t 2,t 3,t 4,t 5,t 6,t 7,t 8,t 9,t 10,t 11,t 12,t 13,t 14,t 15,t 16,t 17,t 18,p78]) (fun i=>match i with|0=>w0|1=>w1|2=>w2|3=>w3|4=>w4|5=>w5|6=>w6|7=>w7|8=>w8|9=>w9|10=>w10|11=>w11|12=>w12|13=>w13|14=>w14|15=>w15|16=>w16|17=>w17|_=>w18) (needReg6G iv tx D B qh m ma mc r p R W) (fun a X=>∃ (t:Nat→Value) (v3:Value),a=⟨#[.pointer (some ⟨D,0,none⟩),p1,p2,.int .i64 iv,.string tx,p5,p6,p7,p8,p9,p10,p11,p12,p13,p14,p15,p16,p17,p18,p19,p20,p21,p22,p23,p24,p25,p26,p27,p28,p29,p30,p31,p32,p33,p34,p35,p36,p37,p38,p39,p40,p41,p42,p43,p44,p45,p46,p47,p48,p49,p50,p51,p52,p53,p54,p55,p56,p57,p58,t 0,t 1,t 2,t 3,t 4,t 5,t 6,t 7,t 8,t 9,t 10,t 11,t 12,t 13,t 14,t 15,t 16,t 17,t 18,v3],[]⟩∧R X) (by kernel_rfl) (by kernel_rfl) (by kernel_rfl) ?_ rfl ?_ ?_ ?_
 ·exact fun _ _ _ _ _ h _=>h
 ·intro i hi t X K hb hg hK
  rcases (show i=0∨i=1∨i=2∨i=3∨i=4∨i=5∨i=6∨i=7∨i=8∨i=9∨i=10∨i=11∨i=12∨i=13∨i=14∨i=15∨i=16∨i=17∨i=18 by omega) with rfl|rfl|rfl|rfl|rfl|rfl|rfl|rfl|rfl|rfl|rfl|rfl|rfl|rfl|rfl|rfl|rfl|rfl|rfl
  ·exact sg
  ·have ea:t 0=.pointer (some ⟨D,0,none⟩):=hg 0 (Wt rfl)
   exact sg
  ·have ea:t 1=.pointer (some ⟨D,0,none⟩):=hg 1 (Wt rfl)
   exact sg
  ·have ea:t 2=.pointer (some ⟨D,9,none⟩):=hg 2 (Wt rfl)
   have f1:=(hb.cell (p:=⟨D,9,none⟩) hD).trans cD9
   exact sg
  ·exact sg
  ·have ea:t 4=.pointer (some ⟨D,0,none⟩):=hg 4 (Wt rfl)
   exact sg
  ·have ea:t 5=.pointer (some ⟨D,0,none⟩):=hg 5 (Wt rfl)
   exact sg
  ·have ea:t 6=.pointer (some ⟨D,1,none⟩):=hg 6 (Wt rfl)
   exact sg
  ·have ea:t 7=.pointer (some ⟨D,2,none⟩):=hg 7 (Wt rfl)
   have f1:=(hb.cell (p:=⟨D,2,none⟩) hD).trans cD2
   exact sg
  ·exact sg
  ·have ea:t 9=.pointer (some ⟨D,0,none⟩):=hg 9 (Wt rfl)
   exact sg
  ·have ea:t 10=.pointer (some ⟨D,0,none⟩):=hg 10 (Wt rfl)
   exact sg
  ·have ea:t 11=.pointer (some ⟨D,0,none⟩):=hg 11 (Wt rfl)
   have f1:=(hb.cell (p:=⟨D,0,none⟩) hD).trans cD0
   exact sg
  ·have ea:t 12=.pointer (some ⟨B,0,none⟩):=hg 12 (Wt rfl)
   exact sg
  ·have ea:t 13=.pointer (some ⟨B,0,none⟩):=hg 13 (Wt rfl)
   exact sg
  ·have ea:t 14=.pointer (some ⟨B,13,none⟩):=hg 14 (Wt rfl)
   have f1:=(hb.cell (p:=⟨B,13,none⟩) hB).trans cB13
   exact sg
  ·exact sg
  ·exact sg
  ·have ea:t 8=.int .i64 m.from_:=hg 8 (Wt rfl)
   have eb:t 15=.int .i64 r.bal:=hg 15 (Wt rfl)
   have ec:t 16=.int .i64 iv:=hg 16 (Wt rfl)
   have ed:t 17=.string tx:=hg 17 (Wt rfl)
   exact sg
 ·intro t X K hb hg hK
  have e18:t 18=.agg #[.int .i64 6,.int .i64 0,.int .i64 m.from_,.int .i64 r.bal,.int .i64 iv,.int .i64 0,.string tx,.slice none 0 0]:=hg 18 (by omega)
  have e3:t 3=.func (.func 150) #[] #[.pointer (some ⟨qh,0,none⟩)]:=hg 3 (by omega)
  refine Zi rfl rfl ?_
  have HK:=hid hK
  have HC:=hid (hQc X hb)
  clear hK hg hQc
  simp only [e18,e3]
  go_simp
  go_at_call 150
  refine HC.out.mono ?_
  rintro e Y ⟨rfl,hR⟩
  have h:=HK.out _ Y ⟨t,.tuple #[],rfl,hR⟩
  simpa [e18,e3] using h
 ·rintro a X ⟨t,v3,rfl,hp⟩
  exact hQ t v3 X hp
abbrev KI (r:Rc) (m:Ms) (i:Nat):Ms:=⟨6,0,m.from_,r.bal,(i:Int)+1,0,(r.dk.s i).text,0,fun _=>⟨0,⟨#[]⟩⟩⟩
def Xc (r:Rc) (m:Ms) (a:Nat):Nat→Rc
 | 0=>r
 | k+1=>Zo (Xc r m a k) (KI (Xc r m a k) m (a+k))
theorem holdR_dk (r:Rc) (m:Ms):(Zo r m).dk=r.dk:=by unfold Zo;split<;>rfl
theorem Ui (r:Rc) (m:Ms) (a:Nat):∀ k,(Xc r m a k).dk=r.dk
 | 0=>rfl
 | k+1=>(holdR_dk _ _).trans (Ui r m a k)
def Jf (r:Rc) (m:Ms):Nat:=((if r.dk.kn<m.ix+4 then r.dk.kn else m.ix+4)-(m.ix-1)).toNat
def XD (r:Rc) (m:Ms):Rc:=if r.ld=true∧m.ix≠0 then Xc r m (m.ix-1).toNat (Jf r m) else r
set_option maxRecDepth 100000 in
theorem need_do (D B qh:Nat) (m:Ms) (ma:Option Addr) (mc:Nat) (r:Rc) (p:RcP) (w:World) (h:DskAt w D B qh m ma mc r p) (hix:0≤m.ix∧m.ix≤1000000) (hk:0≤r.dk.kn∧r.dk.kn≤r.dk.n∧r.dk.n≤60) :
  Calls Tryz.prog 124 #[.pointer (some ⟨D,0,none⟩)] w fun e w'=>DoR B r p (XD r m) w e w':=by
 have H:=hid h
 clear h
 obtain ⟨hi0,hi1⟩:=hix
 obtain ⟨hk0,hk1,hk2⟩:=hk
 cases h1:r.ld with
 | false=>
  have HT:=hid (show XD r m=r from if_neg (fun h=>by rw [h1] at h;cases h.1))
  rw [HT.out]
  have hDl:=H.out.dk.lt
  have hBl:=H.out.bx.lt
  have d0:w.cell? ⟨D,0,none⟩=some (.pointer (some ⟨B,0,none⟩)):=H.out.dk.cell 0
  have b11:w.cell? ⟨B,11,none⟩=some (.bool false):=(H.out.bx.cell 11).trans (congrArg (fun b=>some (Value.bool b)) h1)
  have d5:w.cell? ⟨D,5,none⟩=some (.int .i64 m.ix):=H.out.dk.cell 5
  go_enter Tryz.func124,Tryz.ntmps124
  go_wp2
  refine bodyPost_ret (v:=.tuple #[]) (results_none rfl _ _ _) rfl ?_
  exact H.out.skip (br _ _)
 | true=>
  by_cases h2:m.ix=0
  ·skip
   have HT:=hid (show XD r m=r from if_neg (fun h=>h.2 h2))
   rw [HT.out]
   have hDl:=H.out.dk.lt
   have hBl:=H.out.bx.lt
   have d0:w.cell? ⟨D,0,none⟩=some (.pointer (some ⟨B,0,none⟩)):=H.out.dk.cell 0
   have b11:w.cell? ⟨B,11,none⟩=some (.bool true):=(H.out.bx.cell 11).trans (congrArg (fun b=>some (Value.bool b)) h1)
   have d5:w.cell? ⟨D,5,none⟩=some (.int .i64 0):=(H.out.dk.cell 5).trans (congrArg (fun b=>some (Value.int .i64 b)) h2)
   go_enter Tryz.func124,Tryz.ntmps124
   go_wp2
   refine bodyPost_ret (v:=.tuple #[]) (results_none rfl _ _ _) rfl ?_
   exact H.out.skip (br _ _)
  ·skip
   obtain ⟨a,ha⟩:∃ a:Nat,m.ix=(a:Int)+1:=⟨(m.ix-1).toNat,by omega⟩
   obtain ⟨last,hlast⟩:∃ last,(if r.dk.kn<m.ix+4 then r.dk.kn else m.ix+4)=last:=⟨_,rfl⟩
   obtain ⟨K,hK⟩:∃ K,(last-a).toNat=K:=⟨_,rfl⟩
   have hL1:last≤r.dk.kn:=by rw [←hlast];split<;>omega
   have HT:=hid (show XD r m=Xc r m a K by unfold XD Jf;rw [if_pos ⟨h1,h2⟩,hlast,show (m.ix-1).toNat=a by omega,show m.ix-1=(a:Int) by omega,hK])
   have HA:=hid ha
   have HLA:=hid hlast
   have HKK:=hid hK
   clear ha hlast hK
   rw [HT.out]
   have hDl:=H.out.dk.lt
   have hBl:=H.out.bx.lt
   have d0:w.cell? ⟨D,0,none⟩=some (.pointer (some ⟨B,0,none⟩)):=H.out.dk.cell 0
   have b11:w.cell? ⟨B,11,none⟩=some (.bool true):=(H.out.bx.cell 11).trans (congrArg (fun b=>some (Value.bool b)) h1)
   have d5:w.cell? ⟨D,5,none⟩=some (.int .i64 m.ix):=H.out.dk.cell 5
   have hz:(m.ix==0)=false:=by simp;exact h2
   go_enter Tryz.func124,Tryz.ntmps124
   go_wp2
   clear d0 d5 b11 hz
   have sD0:=Zc (W1:=w) (p:=⟨D,0,none⟩) (v:=.pointer (some ⟨B,0,none⟩)) (H.out.dk.cell 0) H.out.dk.lt
   have sD5:=Zc (W1:=w) (p:=⟨D,5,none⟩) (v:=.int .i64 m.ix) (H.out.dk.cell 5) H.out.dk.lt
   have sB7:=Zc (W1:=w) (p:=⟨B,7,none⟩) (v:=.int .i64 r.dk.kn) (H.out.bx.cell 7) H.out.bx.lt
   have hne:Nonempty (GW w):=⟨⟨_,br _ _⟩⟩
   refine Zf (by kernel_rfl) (by kernel_rfl) ?_
   repeat (go_big_quiet_step (fail))
   refine wpQuiet_nil ?_
   rintro w8 ⟨u,hu⟩
   have hw8:Below w.1.size w w8:=hu▸u.prop
   clear hu u hne sD0 sD5 sB7
   have HW8:=hid hw8
   have H8:=hid (H.out.grow hw8)
   clear hw8
   have hDl8:=H8.out.dk.lt
   have d0:w8.cell? ⟨D,0,none⟩=some (.pointer (some ⟨B,0,none⟩)):=H8.out.dk.cell 0
   have d5:w8.cell? ⟨D,5,none⟩=some (.int .i64 ((a:Int)+1)):=(H8.out.dk.cell 5).trans (congrArg (fun b=>some (Value.int .i64 b)) HA.out)
   rw [HLA.out]
   skip
   go_wp2
   clear d0 d5
   skip
   go_loopw [3] (fun i wr=>∃ k pk,k≤K∧i=.int .i64 (((a+k:Nat):Int)+1)∧DskAt wr D B qh m ma mc (Xc r m a k) pk∧FrP (fun q=>q=B∨rbs p r q) w8 wr∧(∀ q,rbs pk (Xc r m a k) q→rbs p r q∨w8.1.size≤q)) (fun i _=>(a+K+1)-(intOf i).toNat)
   case atStart=>exact ⟨0,p,zle _,by simp,H8.out,FrP.refl _ _,fun q hq=>Or.inl hq⟩
   case round=>
    obtain ⟨k,pk,hk,rfl,hd,hf,hs⟩:=hrel
    have HK:=hid hd
    have HF:=hid hf
    have HS:=hid hs
    have HDK:=hid (Ui r m a k)
    clear hd hf hs
    by_cases hkK:k<K
    ·skip
     have hrow:a+k<(Xc r m a k).dk.n:=by have:=HKK.out;rw [HDK.out];omega
     have hle:((a+k:Nat):Int)+1≤last:=by have:=HKK.out;omega
     have hdn:(Xc r m a k).dk.n≤60:=by rw [HDK.out];omega
     obtain ⟨rk,hrk⟩:∃ rk,Xc r m a k=rk:=⟨_,rfl⟩
     have HRK:=hid hrk
     rw [hrk] at HK HS HDK hrow hdn
     clear hrk
     have eA:=HK.out.g.at_.o1.addr (by omega)
     obtain ⟨cc,rr,hat⟩:=HK.out.g.at_.o1.row (by omega)
     have hc1:wr.cell? ⟨pk.g1,(a+k)*2+1,none⟩=some (.string (rk.dk.s (a+k)).text):=by rw [rr.cell _ (by omega),(hat (a+k) hrow).2]
     have hg1:=rr.lt
     clear hat rr
     have hDr:=HK.out.dk.lt
     have hBr:=HK.out.bx.lt
     have d0:wr.cell? ⟨D,0,none⟩=some (.pointer (some ⟨B,0,none⟩)):=HK.out.dk.cell 0
     have b8:wr.cell? ⟨B,8,none⟩=some (.slice (some ⟨pk.g1,0,none⟩) rk.dk.n pk.A.dc):=(HK.out.bx.cell 8).trans (congrArg (fun b=>some (Value.slice b rk.dk.n pk.A.dc)) eA)
     clear eA
     go_wp2
     clear d0 b8 hc1
     skip
     refine needReg6 _ _ _ _ _ _ _ _ _ _ _ _ _ _ _ _ _ _ _ _ _ _ _ _ _ _ _ _ _ _ _ _ _ _ _ _ _ _ _ _ _ _ _ _ _ _ _ _ _ _ _ _ _ _ _ _ _ _ _ _ _ _ _ _ _ _ _ _ _ _ _ _ _ _ _ _ (((a+k:Nat):Int)+1) (rk.dk.s (a+k)).text D B qh m ma mc rk pk (fun w'=>DoR B rk pk (Zo rk (KI rk m (a+k))) wr (.returned (.tuple #[])) w') wr HK.out.dk.lt HK.out.bx.lt (HK.out.bx.cell 13) (HK.out.dk.cell 0) (HK.out.dk.cell 2) (HK.out.dk.cell 9) (fun X hb=>(Jy D B qh m ma mc rk pk X (HK.out.grow hb) (KI rk m (a+k)) rfl).mono fun e w' hd=>⟨hd.1,by have h9:=DskAt.after HK.out hb hd;rw [hd.1] at h9;exact h9⟩) _ ?_
     intro twa vwa wa hdo
     obtain ⟨_,p1,x1,g1,f1,s1⟩:=hdo
     have Ha:=hid (HK.out.next x1 g1 f1 s1)
     have Fwa:=hid f1
     have Swa:=hid s1
     have Dwa:=hid (show DoR B rk pk (Zo rk (KI rk m (a+k))) wr (.returned (.tuple #[])) wa from ⟨rfl,p1,x1,g1,f1,s1⟩)
     clear x1 g1 f1 s1
     go_wp2
     go_roundw
     case rel=>
      obtain ⟨_,p2,x2,g2,f2,s2⟩:=DoR.then HF.out HS.out Dwa.out
      have e1:=HRK.out
      subst e1
      exact ⟨k+1,p2,by omega,by go_num,H8.out.next x2 g2 f2 s2,f2,s2⟩
     case measure=>simp [intOf];omega
    ·skip
     have hKe:k=K:=by omega
     subst hKe
     have hgt:¬(((a+k:Nat):Int)+1≤last):=by have:=HKK.out;omega
     go_wp2
     refine bodyPost_end (results_none rfl _ _ _) rfl ?_
     exact DskAt.after H.out HW8.out ⟨rfl,pk,HK.out.bx,HK.out.g,HF.out,HS.out⟩
end Go.Proofs.YtokkbdlofbdljaaGreat
