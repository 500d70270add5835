import Derived.Test.YtokkbdlofbdljaaGreatGk
namespace Go.Proofs.YtokkbdlofbdljaaGreat
open Go.RowKit
set_option maxHeartbeats 8000000
theorem apGn0 {P:Prop} (h:P:=by
  have F9:FrP (fun q=>rb p r 6 q∨w.1.size≤q) w V2:=(((FrP.of_below HB0.out).trans2 (F3.out) (fun q hq e=>by
   rcases e with e|e
   ·exact Or.inr (by omega)
   ·exact Or.inl (G6I.out q hq e))).trans (FrP.of_below HB4.out)).trans2 FV (fun q _ e=>Or.inr (by omega))
  exact ⟨F9.os,F9.tape,F9.output,F9.size,fun q hq h=>F9.block q hq (fun e=>by
   rcases e with e|e
   ·exact h e
   ·omega)⟩):P:=h
theorem apGn5 {P:Prop} (h:P:=by
  rcases Nat.eq_zero_or_pos r.an with h0|h0
  ·exact ⟨0,0,zle _,⟨fun j hj=>absurd hj (by omega),fun j hj=>absurd hj (by omega)⟩⟩
  ·exact ⟨p.g6,p.g6+1,by have:=HLT.out p.g6 ⟨6,by omega,Or.inl ⟨h0,rfl⟩⟩;omega,src⟩):P:=h
theorem apGn6 {P:Prop} (h:P:=by
  exact ((G3.out.grow HB4.out).fr FV (fun q hq e=>by
   rcases HRB.out q hq with h|h
   ·have:=HLT.out q h;omega
   ·omega)).kn _):P:=h
set_option maxRecDepth 100000 in
theorem specAck_any (r:Rc) (p:RcP) (x ix:Int) (w:World) (hg:RcG w r p) (hcp:CpOk r p) (hv:AckV r) :
  Calls Tryz.prog 86 #[rcV r p.A,.int .i64 ix,.int .i64 x] w fun e w'=>∃ p',e=.returned (rcV (Ya r x ix) p'.A)∧RcG w' (Ya r x ix) p'∧FrP (fun q=>rb p r 6 q) w w'∧(∀ q,rbs p' (Ya r x ix) q→rbs p r q∨w.1.size≤q):=by
 have HLT:=hid hg.at_.lt
 have HCP:=hid hcp
 have HV:=hid hv
 have han:=hv.an
 have hN:=Bx.new2 w (rcC r p.A) (rcL 0 0 false).toArray 38 38
 have hB0:Below w.1.size w ((w.alloc (.cells (rcC r p.A) 38)).alloc (.cells (rcL 0 0 false).toArray 38)):=(Zb _ _).alloc (by simp) _
 have HB0:=hid hB0
 have HG0:=hid (hg.grow hB0)
 have HX0:=hid hN.1
 have HZ:=hid hN.2
 have zW:w.1.size+1<((w.alloc (.cells (rcC r p.A) 38)).alloc (.cells (rcL 0 0 false).toArray 38)).1.size:=hN.2.lt
 clear hg hN hB0 hcp hv
 have main:∀ T,Ya r x ix=T→Calls Tryz.prog 86 #[rcV r p.A,.int .i64 ix,.int .i64 x] w fun e w'=>∃ p',e=.returned (rcV T p'.A)∧RcG w' T p'∧FrP (fun q=>rb p r 6 q) w w'∧(∀ q,rbs p' T q→rbs p r q∨w.1.size≤q):=by
  intro T hT
  have HTT:=hid hT
  clear hT
  go_enter Tryz.func86,Tryz.ntmps86
  go_wp2
  obtain ⟨W,hW⟩:∃ W,((w.alloc (.cells (rcC r p.A) 38)).alloc (.cells (rcL 0 0 false).toArray 38))=W:=⟨_,rfl⟩
  rw [hW] at HB0 HG0 HX0 HZ zW ⊢
  clear hW
  have hS:=HX0.out.lt
  go_loopw [7] (fun i wr=>∃ k:Nat,k≤r.an∧i=.int .i64 k∧wr=W∧∀ j,j<k→(r.as_ j).ix<ix) (fun i _=>r.an-(intOf i).toNat)
  case atStart=>exact ⟨0,zle _,rfl,rfl,fun j hj=>absurd hj (nlz _)⟩
  case round=>
   obtain ⟨k,hk,rfl,rfl,hlt⟩:=hrel
   have H1:=hid hlt
   clear hlt
   have b16:=HX0.out.cell 16
   have b16a:wr.cell? ⟨w.1.size,16,none⟩=some (.slice p.A.aa r.an p.A.ac):=b16
   clear b16
   by_cases hkn:k<r.an
   ·obtain ⟨c0,rw0,hat0⟩:=HG0.out.at_.o6.row (by omega)
    obtain ⟨a0,_⟩:=hat0 k hkn
    have d0:=(rw0.cell (k*2) (by omega)).trans (congrArg some a0)
    have had:=HG0.out.at_.o6.addr (by omega)
    rw [had] at b16a
    clear rw0 hat0 a0
    by_cases hs:(r.as_ k).ix<ix
    ·have HN:=hid (show ∀ j,j<k+1→(r.as_ j).ix<ix from fun j hj=>by
      rcases Nat.lt_or_ge j k with h3|h3
      ·exact H1.out j h3
      ·obtain rfl:j=k:=by omega
       exact hs)
     generalize (r.as_ k).ix=dd at *
     go_wp2
     go_roundw
     case rel=>exact ⟨k+1,by omega,by go_num,by first|rfl|trivial,HN.out⟩
     case measure=>simp [intOf];omega
    ·have HK:=hid (Ks (s:=(fun i=>(r.as_ i).ix)) (x:=ix) hk H1.out (fun _=>by show ix≤(r.as_ k).ix;omega))
     by_cases he:(r.as_ k).ix=ix
     ·have HE:=hid (show hasI r.an (fun i=>(r.as_ i).ix) ix=true by unfold hasI;rw [←HK.out];simp [hkn,he])
      rw [he] at d0
      clear he hs
      have HT:Hid (T=advR (Zw r k x)):=hid (by rw [←HTT.out];unfold Ya Jg;rw [HE.out,←HK.out];rfl)
      go_wp2
      have G1:=hid HG0.out
      have X1:=hid HX0.out
      have F1:Hid (FrP (fun q=>q=w.1.size) wr wr):=hid (FrP.refl _ _)
      have RB1:Hid (∀ q,rbs p r q→rbs p r q∨wr.1.size≤q):=hid fun q hq=>Or.inl hq
      have G61:Hid (p.g6<w.1.size→rb p r 6 p.g6):=hid fun _=>Or.inl ⟨by omega,rfl⟩
      have AC1:Hid ((r.as_ k).n≤p.AC k):=hid (HCP.out.fl k hkn)
      have FN1:Hid (∀ j,j<r.an→(r.as_ j).n≤10):=hid HV.out.fn
      have DK1:Hid (0≤r.dk.kn∧r.dk.kn≤r.dk.n∧r.dk.n≤60):=hid ⟨HV.out.k0,HV.out.k1,HV.out.dn⟩
      have HBq:Hid (∀ q,rbs p r q→q≠w.1.size):=hid fun q hq=>by have:=HLT.out q hq;omega
      obtain ⟨c0,rw0,hat0⟩:=G1.out.at_.o6.row (by omega)
      obtain ⟨_,a1⟩:=hat0 k hkn
      have hg6:=rw0.lt
      have d1':=rw0.cell (k*2+1) (by omega)
      rw [a1] at d1'
      have dfz:=rw0.free (k*2+1)
      have HO:=hid (G1.out.at_.o6.hold k hkn)
      have hlt9:0<(r.as_ k).n→p.Ab k<wr.1.size:=fun h=>G1.out.at_.o6.hlt k hkn (by omega)
      have b16':wr.cell? ⟨w.1.size,16,none⟩=some (.slice (some ⟨p.g6,0,none⟩) r.an p.A.ac):=by rw [←G1.out.at_.o6.addr (by omega)];exact X1.out.cell 16
      have zWx:=F1.out.size
      clear rw0 hat0 a1
      refine ackReg6 _ _ _ _ _ _ _ _ _ _ _ _ _ _ _ _ _ _ _ _ _ _ _ _ _ _ _ _ _ _ _ _ _ _ _ _ _ _ _ _ _ _ _ _ _ _ _ _ _ _ _ _ _ _ _ _ _ _ _ _ _ _ _ _ _ _ _ _ w.1.size p.g6 r.an p.A.ac k x (r.as_ k) (p.AA k) (p.AC k) (p.Ab k) wr b16' X1.out.lt hg6 d1' dfz hkn (by omega) (by have:=FN1.out k hkn;omega) AC1.out hlt9 HO.out _ ?_
      rintro t v3 X ⟨ad',cap',b',Y,rfl,k1,k2,k3,k4⟩
      obtain ⟨x3,g3,s3,f3⟩:=G1.out.ackPut X1.out HBq.out k4 hkn (cap':=cap') k1 k2 (by rcases k3 with ⟨h1,h2⟩|h1;exact Or.inl ⟨h1,by omega⟩;exact Or.inr h1)
      have g6z:p.g6<w.1.size∨wr.1.size≤p.g6:=by
       rcases RB1.out p.g6 ⟨6,by omega,Or.inl ⟨by omega,rfl⟩⟩ with h|h
       ·exact Or.inl (HLT.out _ h)
       ·exact Or.inr h
      have Z3:=hid ((HZ.out.frP F1.out (by omega)).frP f3 (by rcases g6z with h|h<;>omega))
      have F3:=hid ((F1.out.mono (fun q hq=>(Or.inl hq:q=w.1.size∨q=p.g6))).trans (f3.mono (fun q hq=>(Or.inr hq:q=w.1.size∨q=p.g6))))
      have HRB:=hid (show ∀ q,rbs (Yx p k ad' cap' b') (Zw r k x) q→rbs p r q∨wr.1.size≤q from fun q hq=>by rcases s3 q hq with h|h;exact RB1.out q h;exact Or.inr (by omega))
      have X3:Hid (Bx (Y.setCell ⟨p.g6,k*2+1,none⟩ (.slice ad' (addN (r.as_ k).n (r.as_ k).s x) cap')) w.1.size (rcC (Zw r k x) (Yx p k ad' cap' b').A)):=hid x3
      have G3:Hid (RcG (Y.setCell ⟨p.g6,k*2+1,none⟩ (.slice ad' (addN (r.as_ k).n (r.as_ k).s x) cap')) (Zw r k x) (Yx p k ad' cap' b')):=hid g3
      have HV3:Hid (0≤(Zw r k x).dk.kn∧(Zw r k x).dk.kn≤(Zw r k x).dk.n∧(Zw r k x).dk.n≤60):=hid DK1.out
      have HV2:Hid ((Zw r k x).an≤61):=hid (show r.an≤61 by omega)
      have HV4:=hid (Jl (x:=x) FN1.out hkn)
      have G6I:Hid (∀ q,q<w.1.size→q=p.g6→rb p r 6 q):=hid fun q hq e=>by subst e;exact G61.out hq
      clear x3 g3 s3 f3 k1 k2 k3 k4 d1' dfz HO hlt9 b16'
      clear G1 X1 HBq AC1 FN1 F1 G61 RB1 DK1
      obtain ⟨r2,hr2⟩:∃ r2,Zw r k x=r2:=⟨_,rfl⟩
      obtain ⟨p2,hp2⟩:∃ p2,Yx p k ad' cap' b'=p2:=⟨_,rfl⟩
      obtain ⟨w3,hw3⟩:∃ w3,Y.setCell ⟨p.g6,k*2+1,none⟩ (.slice ad' (addN (r.as_ k).n (r.as_ k).s x) cap')=w3:=⟨_,rfl⟩
      rw [hr2,hp2] at HRB
      rw [hr2] at HV2 HV3 HV4
      rw [hr2,hp2,hw3] at X3 G3
      rw [hw3] at F3 Z3 ⊢
      have HR2:=hid hr2
      clear hr2 hp2 hw3
      have AV:=hid (Jm r2 p2 w3 G3.out HV2.out HV4.out HV3.out.1 HV3.out.2.1 HV3.out.2.2)
      go_wp2_with (first|((with_reducible show wpList _ _ _ (⟨some 69,Op.load 38 _,_,_,_,_⟩::_) _ _);go_must (refine LD38 (rcC r2 p2.A).toList X3.out.cell ?_))|(go_at_call 131;go_must (refine AV.out.mono ?_;rintro e w4 ⟨rfl,hb4⟩;have Z4:=hid (Bx.below Z3.out hb4 Z3.out.lt);have HB4:=hid hb4;clear hb4))|((with_reducible show wpList _ _ _ (⟨none,Op.store 38 _ _,_,_,_,_⟩::_) _ _);go_must (refine Zd rfl 38 _ _ rfl (w.1.size+1) (rcC (advR r2) p2.A).toList rfl rfl Z4.out rfl Tryz.sz38 (by simp [Value.oneCell']) ?_;intro V2 hbv hfv hsv;have HBV2:=hid hbv;have HFV2:=hid hfv;clear hbv hfv hsv)))
      have zz3:=F3.out.size
      have zz4:=HB4.out.size
      have FV:FrP (fun q=>q=w.1.size+1) w4 V2:=FrP.of_fr HFV2.out (fun q h1 h2=>by omega)
      have e9:=HR2.out
      subst e9
      have e7:=HT.out
      subst e7
      refine bodyPost_ret (v:=.agg (rcC (advR (Zw r k x)) p2.A)) (Zv rfl _ _ (w.1.size+1) (rcC (advR (Zw r k x)) p2.A).toList _ rfl (Holds.range (cs:=(rcC (advR (Zw r k x)) p2.A).toList) HBV2.out.cell) Tryz.underlying38 rfl Tryz.sz38) rfl ⟨p2,rfl,?_,?_,?_⟩
      ·exact apGn6
      ·exact apGn0
      ·intro q hq
       rcases HRB.out q hq with h|h
       ·exact Or.inl h
       ·exact Or.inr (by omega)
     ·have HE:=hid (show hasI r.an (fun i=>(r.as_ i).ix) ix=false by unfold hasI;rw [←HK.out];simp [he])
      have hz:((r.as_ k).ix==ix)=false:=by simp;exact he
      have hz2:decide ((r.as_ k).ix<ix)=false:=decide_eq_false hs
      generalize hdd:(r.as_ k).ix=dd at d0 hz hz2 he
      have hz5:(dd != ix)=true:=by simp;exact he
      clear hs hdd
      have HT:Hid (T=advR (Zw (insR r k ix) k x)):=hid (by rw [←HTT.out];unfold Ya Jg;rw [HE.out,←HK.out];rfl)
      obtain ⟨c,src,hat⟩:=HG0.out.at_.o6.srcR
      obtain ⟨lo,hi,hhi,SR2⟩:∃ lo hi,hi≤wr.1.size∧SrcRow wr lo hi p.A.aa (r.an*2) c:=by
       exact apGn5
      have SRC:=hid SR2
      have HAT:=hid hat
      clear SR2 src hat
      go_wp2
      refine ackReg5 _ _ _ _ _ _ _ _ _ _ _ _ _ _ _ _ _ _ _ _ _ _ _ _ _ _ _ _ _ _ _ _ _ _ _ _ _ _ _ _ _ _ _ _ _ _ _ _ _ _ _ _ _ _ _ _ _ _ _ _ _ _ _ _ _ _ _ _ w.1.size p.A.aa r.an p.A.ac k ix c lo hi wr (by omega) (by omega) HCP.out.al hhi SRC.out (HX0.out.cell 16) (HX0.out.free 16) HX0.out.lt _ ?_
      intro t0 v3 Y0 hrw hbY
      obtain ⟨ad3,g3,cp3,rfl,hrow,hge⟩:=hrw
      have hcp:0<cp3:=ltl (by omega) hrow.le
      have hrm:=hrow.room hcp
      have had:=hrow.addr hcp
      subst had
      have HROWF:Hid (RowF Y0 g3 ((r.an+1)*2) (insC c k 2 (akD ix))):=hid ⟨hrm.lt,hrm.free,fun j hj=>by rw [hrow.cell j (by omega),KW _ _ _ _ _ _ (by omega) (by omega)]⟩
      have hg3:=hge hcp
      have HBY:=hid hbY
      clear hrow hbY hge hrm
      rw [show k+1+(r.an-k)=r.an+1 by omega]
      obtain ⟨x2,g2,s2,f2⟩:=HG0.out.ackIns HX0.out (fun q hq=>by have:=HLT.out q hq;omega) HBY.out hk hg3 HAT.out ix cp3 HROWF.out
      have hkn:k<(insR r k ix).an:=Nat.lt_succ_of_le hk
      have han1:(insR r k ix).an≤61:=by show r.an+1≤61;omega
      have hyk:(insR r k ix).as_ k=ak0 ix:=Yf
      have AC1:Hid (((insR r k ix).as_ k).n≤(insP p k g3 cp3).AC k):=hid (by rw [hyk];exact zle _)
      have FN1:Hid (∀ j,j<(insR r k ix).an→((insR r k ix).as_ j).n≤10):=hid fun j hj=>by
       have hj':j<r.an+1:=hj
       show (insX r.as_ k (ak0 ix) j).n≤10
       rcases Nat.lt_trichotomy j k with h1|h1|h1
       ·rw [YH h1];exact HV.out.fn j (by omega)
       ·subst h1;rw [Yf];exact zle _
       ·rw [YI h1];exact HV.out.fn (j-1) (by omega)
      have DK1:Hid (0≤(insR r k ix).dk.kn∧(insR r k ix).dk.kn≤(insR r k ix).dk.n∧(insR r k ix).dk.n≤60):=hid ⟨HV.out.k0,HV.out.k1,HV.out.dn⟩
      have G1:=hid g2
      have X1:=hid x2
      have RB1:=hid s2
      have F1:=hid f2
      have G61:Hid ((insP p k g3 cp3).g6<w.1.size→rb p r 6 (insP p k g3 cp3).g6):=hid fun h=>by have h':g3<w.1.size:=h;omega
      have HBq:Hid (∀ q,rbs (insP p k g3 cp3) (insR r k ix) q→q≠w.1.size):=hid fun q hq=>by
       rcases RB1.out q hq with h|h
       ·have:=HLT.out q h;omega
       ·omega
      obtain ⟨r1,hr1⟩:∃ r1,insR r k ix=r1:=⟨_,rfl⟩
      obtain ⟨p1,hp1⟩:∃ p1,insP p k g3 cp3=p1:=⟨_,rfl⟩
      obtain ⟨W1,hW1⟩:∃ W1,Y0.setCell ⟨w.1.size,16,none⟩ (.slice (some ⟨g3,0,none⟩) (r.an+1) cp3)=W1:=⟨_,rfl⟩
      rw [hr1] at hkn han1 FN1 DK1
      rw [hr1,hp1] at AC1 RB1 HBq
      rw [hp1] at G61
      rw [hr1,hp1,hW1] at G1 X1
      rw [hW1] at F1 ⊢
      have HR1:=hid hr1
      clear hr1 hp1 hW1 hyk x2 g2 s2 f2 HROWF HAT SRC hg3 hcp HBY
      go_wp2
      obtain ⟨c0,rw0,hat0⟩:=G1.out.at_.o6.row (by omega)
      obtain ⟨_,a1⟩:=hat0 k hkn
      have hg6:=rw0.lt
      have d1':=rw0.cell (k*2+1) (by omega)
      rw [a1] at d1'
      have dfz:=rw0.free (k*2+1)
      have HO:=hid (G1.out.at_.o6.hold k hkn)
      have hlt9:0<(r1.as_ k).n→p1.Ab k<W1.1.size:=fun h=>G1.out.at_.o6.hlt k hkn (by omega)
      have b16':W1.cell? ⟨w.1.size,16,none⟩=some (.slice (some ⟨p1.g6,0,none⟩) r1.an p1.A.ac):=by rw [←G1.out.at_.o6.addr (by omega)];exact X1.out.cell 16
      have zW1:=F1.out.size
      clear rw0 hat0 a1
      refine ackReg6 _ _ _ _ _ _ _ _ _ _ _ _ _ _ _ _ _ _ _ _ _ _ _ _ _ _ _ _ _ _ _ _ _ _ _ _ _ _ _ _ _ _ _ _ _ _ _ _ _ _ _ _ _ _ _ _ _ _ _ _ _ _ _ _ _ _ _ _ w.1.size p1.g6 r1.an p1.A.ac k x (r1.as_ k) (p1.AA k) (p1.AC k) (p1.Ab k) W1 b16' X1.out.lt hg6 d1' dfz hkn (by omega) (by have:=FN1.out k hkn;omega) AC1.out hlt9 HO.out _ ?_
      rintro t v3 X ⟨ad',cap',b',Y,rfl,k1,k2,k3,k4⟩
      obtain ⟨x3,g3,s3,f3⟩:=G1.out.ackPut X1.out HBq.out k4 hkn (cap':=cap') k1 k2 (by rcases k3 with ⟨h1,h2⟩|h1;exact Or.inl ⟨h1,by omega⟩;exact Or.inr h1)
      have g6z:p1.g6<w.1.size∨wr.1.size≤p1.g6:=by
       rcases RB1.out p1.g6 ⟨6,by omega,Or.inl ⟨by omega,rfl⟩⟩ with h|h
       ·exact Or.inl (HLT.out _ h)
       ·exact Or.inr h
      have Z3:=hid ((HZ.out.frP F1.out (by omega)).frP f3 (by rcases g6z with h|h<;>omega))
      have F3:=hid ((F1.out.mono (fun q hq=>(Or.inl hq:q=w.1.size∨q=p1.g6))).trans (f3.mono (fun q hq=>(Or.inr hq:q=w.1.size∨q=p1.g6))))
      have HRB:=hid (show ∀ q,rbs (Yx p1 k ad' cap' b') (Zw r1 k x) q→rbs p r q∨wr.1.size≤q from fun q hq=>by rcases s3 q hq with h|h;exact RB1.out q h;exact Or.inr (by omega))
      have X3:Hid (Bx (Y.setCell ⟨p1.g6,k*2+1,none⟩ (.slice ad' (addN (r1.as_ k).n (r1.as_ k).s x) cap')) w.1.size (rcC (Zw r1 k x) (Yx p1 k ad' cap' b').A)):=hid x3
      have G3:Hid (RcG (Y.setCell ⟨p1.g6,k*2+1,none⟩ (.slice ad' (addN (r1.as_ k).n (r1.as_ k).s x) cap')) (Zw r1 k x) (Yx p1 k ad' cap' b')):=hid g3
      have HV3:Hid (0≤(Zw r1 k x).dk.kn∧(Zw r1 k x).dk.kn≤(Zw r1 k x).dk.n∧(Zw r1 k x).dk.n≤60):=hid DK1.out
      have HV2:Hid ((Zw r1 k x).an≤61):=hid (show r1.an≤61 by omega)
      have HV4:=hid (Jl (x:=x) FN1.out hkn)
      have G6I:Hid (∀ q,q<w.1.size→q=p1.g6→rb p r 6 q):=hid fun q hq e=>by subst e;exact G61.out hq
      clear x3 g3 s3 f3 k1 k2 k3 k4 d1' dfz HO hlt9 b16'
      clear G1 X1 HBq AC1 FN1 F1 G61 RB1 DK1
      obtain ⟨r2,hr2⟩:∃ r2,Zw r1 k x=r2:=⟨_,rfl⟩
      obtain ⟨p2,hp2⟩:∃ p2,Yx p1 k ad' cap' b'=p2:=⟨_,rfl⟩
      obtain ⟨w3,hw3⟩:∃ w3,Y.setCell ⟨p1.g6,k*2+1,none⟩ (.slice ad' (addN (r1.as_ k).n (r1.as_ k).s x) cap')=w3:=⟨_,rfl⟩
      rw [hr2,hp2] at HRB
      rw [hr2] at HV2 HV3 HV4
      rw [hr2,hp2,hw3] at X3 G3
      rw [hw3] at F3 Z3 ⊢
      have HR2:=hid hr2
      clear hr2 hp2 hw3
      have AV:=hid (Jm r2 p2 w3 G3.out HV2.out HV4.out HV3.out.1 HV3.out.2.1 HV3.out.2.2)
      go_wp2_with (first|((with_reducible show wpList _ _ _ (⟨some 69,Op.load 38 _,_,_,_,_⟩::_) _ _);go_must (refine LD38 (rcC r2 p2.A).toList X3.out.cell ?_))|(go_at_call 131;go_must (refine AV.out.mono ?_;rintro e w4 ⟨rfl,hb4⟩;have Z4:=hid (Bx.below Z3.out hb4 Z3.out.lt);have HB4:=hid hb4;clear hb4))|((with_reducible show wpList _ _ _ (⟨none,Op.store 38 _ _,_,_,_,_⟩::_) _ _);go_must (refine Zd rfl 38 _ _ rfl (w.1.size+1) (rcC (advR r2) p2.A).toList rfl rfl Z4.out rfl Tryz.sz38 (by simp [Value.oneCell']) ?_;intro V2 hbv hfv hsv;have HBV2:=hid hbv;have HFV2:=hid hfv;clear hbv hfv hsv)))
      have zz3:=F3.out.size
      have zz4:=HB4.out.size
      have FV:FrP (fun q=>q=w.1.size+1) w4 V2:=FrP.of_fr HFV2.out (fun q h1 h2=>by omega)
      have e8:=HR1.out
      subst e8
      have e9:=HR2.out
      subst e9
      have e7:=HT.out
      subst e7
      refine bodyPost_ret (v:=.agg (rcC (advR (Zw (insR r k ix) k x)) p2.A)) (Zv rfl _ _ (w.1.size+1) (rcC (advR (Zw (insR r k ix) k x)) p2.A).toList _ rfl (Holds.range (cs:=(rcC (advR (Zw (insR r k ix) k x)) p2.A).toList) HBV2.out.cell) Tryz.underlying38 rfl Tryz.sz38) rfl ⟨p2,rfl,?_,?_,?_⟩
      ·exact apGn6
      ·exact apGn0
      ·intro q hq
       rcases HRB.out q hq with h|h
       ·exact Or.inl h
       ·exact Or.inr (by omega)
   ·obtain rfl:k=r.an:=by omega
    have HK:=hid (Ks (s:=(fun i=>(r.as_ i).ix)) (x:=ix) (lrf r.an) H1.out (fun h=>absurd h (Nat.lt_irrefl _)))
    have HE:=hid (show hasI r.an (fun i=>(r.as_ i).ix) ix=false by unfold hasI;rw [←HK.out];simp)
    have HT:Hid (T=advR (Zw (insR r r.an ix) r.an x)):=hid (by rw [←HTT.out];unfold Ya Jg;rw [HE.out,←HK.out];rfl)
    obtain ⟨c,src,hat⟩:=HG0.out.at_.o6.srcR
    obtain ⟨lo,hi,hhi,SR2⟩:∃ lo hi,hi≤wr.1.size∧SrcRow wr lo hi p.A.aa (r.an*2) c:=by
     exact apGn5
    have SRC:=hid SR2
    have HAT:=hid hat
    clear SR2 src hat
    go_wp2
    refine ackReg5 _ _ _ _ _ _ _ _ _ _ _ _ _ _ _ _ _ _ _ _ _ _ _ _ _ _ _ _ _ _ _ _ _ _ _ _ _ _ _ _ _ _ _ _ _ _ _ _ _ _ _ _ _ _ _ _ _ _ _ _ _ _ _ _ _ _ _ _ w.1.size p.A.aa r.an p.A.ac r.an ix c lo hi wr (by omega) (by omega) HCP.out.al hhi SRC.out (HX0.out.cell 16) (HX0.out.free 16) HX0.out.lt _ ?_
    intro t0 v3 Y0 hrw hbY
    obtain ⟨ad3,g3,cp3,rfl,hrow,hge⟩:=hrw
    have hcp:0<cp3:=ltl (by omega) hrow.le
    have hrm:=hrow.room hcp
    have had:=hrow.addr hcp
    subst had
    have HROWF:Hid (RowF Y0 g3 ((r.an+1)*2) (insC c r.an 2 (akD ix))):=hid ⟨hrm.lt,hrm.free,fun j hj=>by rw [hrow.cell j (by omega),KW _ _ _ _ _ _ (by omega) (by omega)]⟩
    have hg3:=hge hcp
    have HBY:=hid hbY
    clear hrow hbY hge hrm
    rw [show r.an+1+(r.an-r.an)=r.an+1 by omega]
    obtain ⟨x2,g2,s2,f2⟩:=HG0.out.ackIns HX0.out (fun q hq=>by have:=HLT.out q hq;omega) HBY.out hk hg3 HAT.out ix cp3 HROWF.out
    have hkn:r.an<(insR r r.an ix).an:=Nat.lt_succ_of_le hk
    have han1:(insR r r.an ix).an≤61:=by show r.an+1≤61;omega
    have hyk:(insR r r.an ix).as_ r.an=ak0 ix:=Yf
    have AC1:Hid (((insR r r.an ix).as_ r.an).n≤(insP p r.an g3 cp3).AC r.an):=hid (by rw [hyk];exact zle _)
    have FN1:Hid (∀ j,j<(insR r r.an ix).an→((insR r r.an ix).as_ j).n≤10):=hid fun j hj=>by
     have hj':j<r.an+1:=hj
     show (insX r.as_ r.an (ak0 ix) j).n≤10
     rcases Nat.lt_trichotomy j r.an with h1|h1|h1
     ·rw [YH h1];exact HV.out.fn j (by omega)
     ·subst h1;rw [Yf];exact zle _
     ·rw [YI h1];exact HV.out.fn (j-1) (by omega)
    have DK1:Hid (0≤(insR r r.an ix).dk.kn∧(insR r r.an ix).dk.kn≤(insR r r.an ix).dk.n∧(insR r r.an ix).dk.n≤60):=hid ⟨HV.out.k0,HV.out.k1,HV.out.dn⟩
    have G1:=hid g2
    have X1:=hid x2
    have RB1:=hid s2
    have F1:=hid f2
    have G61:Hid ((insP p r.an g3 cp3).g6<w.1.size→rb p r 6 (insP p r.an g3 cp3).g6):=hid fun h=>by have h':g3<w.1.size:=h;omega
    have HBq:Hid (∀ q,rbs (insP p r.an g3 cp3) (insR r r.an ix) q→q≠w.1.size):=hid fun q hq=>by
     rcases RB1.out q hq with h|h
     ·have:=HLT.out q h;omega
     ·omega
    obtain ⟨r1,hr1⟩:∃ r1,insR r r.an ix=r1:=⟨_,rfl⟩
    obtain ⟨p1,hp1⟩:∃ p1,insP p r.an g3 cp3=p1:=⟨_,rfl⟩
    obtain ⟨W1,hW1⟩:∃ W1,Y0.setCell ⟨w.1.size,16,none⟩ (.slice (some ⟨g3,0,none⟩) (r.an+1) cp3)=W1:=⟨_,rfl⟩
    rw [hr1] at hkn han1 FN1 DK1
    rw [hr1,hp1] at AC1 RB1 HBq
    rw [hp1] at G61
    rw [hr1,hp1,hW1] at G1 X1
    rw [hW1] at F1 ⊢
    have HR1:=hid hr1
    clear hr1 hp1 hW1 hyk x2 g2 s2 f2 HROWF HAT SRC hg3 hcp HBY
    go_wp2
    obtain ⟨c0,rw0,hat0⟩:=G1.out.at_.o6.row (by omega)
    obtain ⟨_,a1⟩:=hat0 r.an hkn
    have hg6:=rw0.lt
    have d1':=rw0.cell (r.an*2+1) (by omega)
    rw [a1] at d1'
    have dfz:=rw0.free (r.an*2+1)
    have HO:=hid (G1.out.at_.o6.hold r.an hkn)
    have hlt9:0<(r1.as_ r.an).n→p1.Ab r.an<W1.1.size:=fun h=>G1.out.at_.o6.hlt r.an hkn (by omega)
    have b16':W1.cell? ⟨w.1.size,16,none⟩=some (.slice (some ⟨p1.g6,0,none⟩) r1.an p1.A.ac):=by rw [←G1.out.at_.o6.addr (by omega)];exact X1.out.cell 16
    have zW1:=F1.out.size
    clear rw0 hat0 a1
    refine ackReg6 _ _ _ _ _ _ _ _ _ _ _ _ _ _ _ _ _ _ _ _ _ _ _ _ _ _ _ _ _ _ _ _ _ _ _ _ _ _ _ _ _ _ _ _ _ _ _ _ _ _ _ _ _ _ _ _ _ _ _ _ _ _ _ _ _ _ _ _ w.1.size p1.g6 r1.an p1.A.ac r.an x (r1.as_ r.an) (p1.AA r.an) (p1.AC r.an) (p1.Ab r.an) W1 b16' X1.out.lt hg6 d1' dfz hkn (by omega) (by have:=FN1.out r.an hkn;omega) AC1.out hlt9 HO.out _ ?_
    rintro t v3 X ⟨ad',cap',b',Y,rfl,k1,k2,k3,k4⟩
    obtain ⟨x3,g3,s3,f3⟩:=G1.out.ackPut X1.out HBq.out k4 hkn (cap':=cap') k1 k2 (by rcases k3 with ⟨h1,h2⟩|h1;exact Or.inl ⟨h1,by omega⟩;exact Or.inr h1)
    have g6z:p1.g6<w.1.size∨wr.1.size≤p1.g6:=by
     rcases RB1.out p1.g6 ⟨6,by omega,Or.inl ⟨by omega,rfl⟩⟩ with h|h
     ·exact Or.inl (HLT.out _ h)
     ·exact Or.inr h
    have Z3:=hid ((HZ.out.frP F1.out (by omega)).frP f3 (by rcases g6z with h|h<;>omega))
    have F3:=hid ((F1.out.mono (fun q hq=>(Or.inl hq:q=w.1.size∨q=p1.g6))).trans (f3.mono (fun q hq=>(Or.inr hq:q=w.1.size∨q=p1.g6))))
    have HRB:=hid (show ∀ q,rbs (Yx p1 r.an ad' cap' b') (Zw r1 r.an x) q→rbs p r q∨wr.1.size≤q from fun q hq=>by rcases s3 q hq with h|h;exact RB1.out q h;exact Or.inr (by omega))
    have X3:Hid (Bx (Y.setCell ⟨p1.g6,r.an*2+1,none⟩ (.slice ad' (addN (r1.as_ r.an).n (r1.as_ r.an).s x) cap')) w.1.size (rcC (Zw r1 r.an x) (Yx p1 r.an ad' cap' b').A)):=hid x3
    have G3:Hid (RcG (Y.setCell ⟨p1.g6,r.an*2+1,none⟩ (.slice ad' (addN (r1.as_ r.an).n (r1.as_ r.an).s x) cap')) (Zw r1 r.an x) (Yx p1 r.an ad' cap' b')):=hid g3
    have HV3:Hid (0≤(Zw r1 r.an x).dk.kn∧(Zw r1 r.an x).dk.kn≤(Zw r1 r.an x).dk.n∧(Zw r1 r.an x).dk.n≤60):=hid DK1.out
    have HV2:Hid ((Zw r1 r.an x).an≤61):=hid (show r1.an≤61 by omega)
    have HV4:=hid (Jl (x:=x) FN1.out hkn)
    have G6I:Hid (∀ q,q<w.1.size→q=p1.g6→rb p r 6 q):=hid fun q hq e=>by subst e;exact G61.out hq
    clear x3 g3 s3 f3 k1 k2 k3 k4 d1' dfz HO hlt9 b16'
    clear G1 X1 HBq AC1 FN1 F1 G61 RB1 DK1
    obtain ⟨r2,hr2⟩:∃ r2,Zw r1 r.an x=r2:=⟨_,rfl⟩
    obtain ⟨p2,hp2⟩:∃ p2,Yx p1 r.an ad' cap' b'=p2:=⟨_,rfl⟩
    obtain ⟨w3,hw3⟩:∃ w3,Y.setCell ⟨p1.g6,r.an*2+1,none⟩ (.slice ad' (addN (r1.as_ r.an).n (r1.as_ r.an).s x) cap')=w3:=⟨_,rfl⟩
    rw [hr2,hp2] at HRB
    rw [hr2] at HV2 HV3 HV4
    rw [hr2,hp2,hw3] at X3 G3
    rw [hw3] at F3 Z3 ⊢
    have HR2:=hid hr2
    clear hr2 hp2 hw3
    have AV:=hid (Jm r2 p2 w3 G3.out HV2.out HV4.out HV3.out.1 HV3.out.2.1 HV3.out.2.2)
    go_wp2_with (first|((with_reducible show wpList _ _ _ (⟨some 69,Op.load 38 _,_,_,_,_⟩::_) _ _);go_must (refine LD38 (rcC r2 p2.A).toList X3.out.cell ?_))|(go_at_call 131;go_must (refine AV.out.mono ?_;rintro e w4 ⟨rfl,hb4⟩;have Z4:=hid (Bx.below Z3.out hb4 Z3.out.lt);have HB4:=hid hb4;clear hb4))|((with_reducible show wpList _ _ _ (⟨none,Op.store 38 _ _,_,_,_,_⟩::_) _ _);go_must (refine Zd rfl 38 _ _ rfl (w.1.size+1) (rcC (advR r2) p2.A).toList rfl rfl Z4.out rfl Tryz.sz38 (by simp [Value.oneCell']) ?_;intro V2 hbv hfv hsv;have HBV2:=hid hbv;have HFV2:=hid hfv;clear hbv hfv hsv)))
    have zz3:=F3.out.size
    have zz4:=HB4.out.size
    have FV:FrP (fun q=>q=w.1.size+1) w4 V2:=FrP.of_fr HFV2.out (fun q h1 h2=>by omega)
    have e8:=HR1.out
    subst e8
    have e9:=HR2.out
    subst e9
    have e7:=HT.out
    subst e7
    refine bodyPost_ret (v:=.agg (rcC (advR (Zw (insR r r.an ix) r.an x)) p2.A)) (Zv rfl _ _ (w.1.size+1) (rcC (advR (Zw (insR r r.an ix) r.an x)) p2.A).toList _ rfl (Holds.range (cs:=(rcC (advR (Zw (insR r r.an ix) r.an x)) p2.A).toList) HBV2.out.cell) Tryz.underlying38 rfl Tryz.sz38) rfl ⟨p2,rfl,?_,?_,?_⟩
    ·exact apGn6
    ·exact apGn0
    ·intro q hq
     rcases HRB.out q hq with h|h
     ·exact Or.inl h
     ·exact Or.inr (by omega)
 exact main _ rfl
abbrev dsC (B qh:Nat) (m:Ms) (ma:Option Addr) (mc:Nat):Array Value:=#[.pointer (some ⟨B,0,none⟩),.int .i64 m.kind,.int .i64 m.from_,.int .i64 m.to,.int .i64 m.bal,.int .i64 m.ix,.int .i64 m.kn,.string m.text,.slice ma m.n mc,.func (.func 150) #[] #[.pointer (some ⟨qh,0,none⟩)]]
structure DskAt (w:World) (D B qh:Nat) (m:Ms) (ma:Option Addr) (mc:Nat) (r:Rc) (p:RcP):Prop where
 dk:Bx w D (dsC B qh m ma mc)
 bx:Bx w B (rcC r p.A)
 qc:w.cell? ⟨qh,0,none⟩=some (.pointer (some ⟨B,0,none⟩))
 ql:qh<w.1.size
 g:RcG w r p
 ap:∀ k,rbs p r k→k≠B∧k≠qh∧k≠D
 db:D≠B∧D≠qh∧qh≠B
theorem DskAt.grow {w w':World} {D B qh:Nat} {m:Ms} {ma:Option Addr} {mc:Nat} {r:Rc} {p:RcP} (h:DskAt w D B qh m ma mc r p) (hb:Below w.1.size w w'):DskAt w' D B qh m ma mc r p:=
 ⟨h.dk.below hb h.dk.lt,h.bx.below hb h.bx.lt,(hb.cell (p:=⟨qh,0,none⟩) h.ql).trans h.qc,ltl h.ql hb.size,h.g.grow hb,h.ap,h.db⟩
def DoR (B:Nat) (r:Rc) (p:RcP) (r':Rc) (w:World) (e:Ending) (w':World):Prop:=
 e=.returned (.tuple #[])∧∃ p',Bx w' B (rcC r' p'.A)∧RcG w' r' p'∧FrP (fun q=>q=B∨rbs p r q) w w'∧(∀ q,rbs p' r' q→rbs p r q∨w.1.size≤q)
theorem DskAt.next {w w':World} {D B qh:Nat} {m:Ms} {ma:Option Addr} {mc:Nat} {r r':Rc} {p p':RcP} (h:DskAt w D B qh m ma mc r p) (hx:Bx w' B (rcC r' p'.A)) (hg:RcG w' r' p') (hf:FrP (fun q=>q=B∨rbs p r q) w w') (hr:∀ q,rbs p' r' q→rbs p r q∨w.1.size≤q):DskAt w' D B qh m ma mc r' p':=by
 have hq:=h.ql
 have hd:=h.dk.lt
 have hB:=h.bx.lt
 obtain ⟨d1,d2,d3⟩:=h.db
 refine ⟨h.dk.frP hf (fun e=>?_),hx,(hf.cell (p:=⟨qh,0,none⟩) hq (fun e=>?_)).trans h.qc,ltl hq hf.size,hg,fun k hk=>?_,h.db⟩
 ·rcases e with e|e
  ·exact d1 e
  ·exact (h.ap D e).2.2 rfl
 ·rcases e with e|e
  ·exact d3 e
  ·exact (h.ap qh e).2.1 rfl
 ·rcases hr k hk with e|e
  ·exact h.ap k e
  ·exact ⟨by omega,by omega,by omega⟩
theorem DoR.then {B:Nat} {r:Rc} {p:RcP} {r1:Rc} {p1:RcP} {w w1:World} (hf:FrP (fun q=>q=B∨rbs p r q) w w1) (hr:∀ q,rbs p1 r1 q→rbs p r q∨w.1.size≤q) {r2:Rc} {e:Ending} {w2:World} (h:DoR B r1 p1 r2 w1 e w2):DoR B r p r2 w e w2:=by
 obtain ⟨he,p2,x2,g2,f2,s2⟩:=h
 refine ⟨he,p2,x2,g2,hf.trans2 f2 (fun q hq e=>?_),fun q hq=>?_⟩
 ·rcases e with e|e
  ·exact Or.inl e
  ·rcases hr q e with h|h
   ·exact Or.inr h
   ·omega
 ·rcases s2 q hq with h|h
  ·exact hr q h
  ·exact Or.inr (ltr hf.size h)
theorem Un (D B qh:Nat) (m:Ms) (ma:Option Addr) (mc:Nat) (r:Rc) (p:RcP) (w:World) (h:DskAt w D B qh m ma mc r p) (m2:Ms) (adm:Option Addr) (capm hbm:Nat) (hm:SlsAt w adm hbm m2.n m2.s) (hml:m2.n≠0→hbm<w.1.size∧¬rbs p r hbm∧hbm≠B) (w0:World) (hb:Below w0.1.size w0 w) (hz:m2.n≠0→w0.1.size≤hbm) :
  Calls Tryz.prog 150 #[msV m2 adm capm,.pointer (some ⟨qh,0,none⟩)] w fun e w'=>DoR B r p (Zo r m2) w0 e w':=by
 refine (hold_do r p m2 adm capm hbm B qh w h.bx h.ql h.qc h.g (fun k hk=>⟨(h.ap k hk).1,(h.ap k hk).2.1⟩) hm hml).mono fun e w' ⟨he,p',x',g',f',s'⟩=>⟨he,p',x',g',(FrP.of_below hb).trans2 f' (fun q _ e=>?_),fun q hq=>?_⟩
 ·rcases e with e|⟨e1,e2⟩
  ·exact Or.inl e
  ·exact Or.inr ⟨2,by omega,Or.inl ⟨Nat.pos_of_ne_zero e1,e2⟩⟩
 ·rcases s' q hq with h1|⟨h1,rfl⟩|h1
  ·exact Or.inl h1
  ·exact Or.inr (hz h1)
  ·exact Or.inr (ltr hb.size h1)
def refReg0G (D B qh:Nat) (m:Ms) (_ma:Option Addr) (_mc:Nat) (r:Rc) (_p:RcP) (_W:World) (i:Nat) (v:Value) (_X:World):Prop:=
 match i with
 | 0=>v=.pointer (some ⟨D,0,none⟩)
 | 1=>v=.pointer (some ⟨D,0,none⟩)
 | 2=>v=.pointer (some ⟨D,9,none⟩)
 | 3=>v=.func (.func 150) #[] #[.pointer (some ⟨qh,0,none⟩)]
 | 4=>v=.pointer (some ⟨D,0,none⟩)
 | 5=>v=.pointer (some ⟨D,0,none⟩)
 | 6=>v=.pointer (some ⟨D,1,none⟩)
 | 7=>v=.pointer (some ⟨D,2,none⟩)
 | 8=>v=.int .i64 m.from_
 | 9=>v=.pointer (some ⟨D,0,none⟩)
 | 10=>v=.pointer (some ⟨D,0,none⟩)
 | 11=>v=.pointer (some ⟨D,0,none⟩)
 | 12=>v=.pointer (some ⟨B,0,none⟩)
 | 13=>v=.pointer (some ⟨B,0,none⟩)
 | 14=>v=.pointer (some ⟨B,6,none⟩)
 | 15=>v=.pointer (some ⟨B,6,none⟩)
 | 16=>v=.int .i64 r.dk.pr
 | 17=>v=.agg #[.int .i64 9,.int .i64 0,.int .i64 m.from_,.int .i64 r.dk.pr,.int .i64 0,.int .i64 0,.string ⟨#[]⟩,.slice none 0 0]
 | _=>True
theorem apGn4 {P:Prop} (h:P:=by
  have ea:t 7=.pointer (some ⟨D,2,none⟩):=hg 7 (Wt rfl)
  have f1:=(hb.cell (p:=⟨D,2,none⟩) hD).trans cD2
  exact sg):P:=h
set_option maxRecDepth 100000 in
theorem refReg0 (p1 p20:Value) (w0 w1 w2 w3 w4 w5 w6 w7 w8 w9 w10 w11 w12 w13 w14 w15 w16 w17:Value) (D B qh:Nat) (m:Ms) (ma:Option Addr) (mc:Nat) (r:Rc) (p:RcP) (W:World) (hD:D<W.1.size) (hB:B<W.1.size) (cB6:W.cell? ⟨B,6,none⟩=some (.int .i64 r.dk.pr)) (cD0:W.cell? ⟨D,0,none⟩=some (.pointer (some ⟨B,0,none⟩))) (cD2:W.cell? ⟨D,2,none⟩=some (.int .i64 m.from_)) (cD9:W.cell? ⟨D,9,none⟩=some (.func (.func 150) #[] #[.pointer (some ⟨qh,0,none⟩)])) (hQc:∀ X,Below W.1.size W X→Calls Tryz.prog 150 #[msV ⟨9,0,m.from_,r.dk.pr,0,0,⟨#[]⟩,0,fun _=>⟨0,⟨#[]⟩⟩⟩ none 0,.pointer (some ⟨qh,0,none⟩)] X fun e w'=>DoR B r p (Zo r ⟨9,0,m.from_,r.dk.pr,0,0,⟨#[]⟩,0,fun _=>⟨0,⟨#[]⟩⟩⟩) W e w') (Q:Exit→Act→World→Prop) (hQ:∀ (t:Nat→Value) (v3:Value) X,DoR B r p (Zo r ⟨9,0,m.from_,r.dk.pr,0,0,⟨#[]⟩,0,fun _=>⟨0,⟨#[]⟩⟩⟩) W (.returned (.tuple #[])) X→Q .normal ⟨#[.pointer (some ⟨D,0,none⟩),p1,t 0,t 1,t 2,t 3,t 4,t 5,t 6,t 7,t 8,t 9,t 10,t 11,t 12,t 13,t 14,t 15,t 16,t 17,v3],[]⟩ X) :
  Code.wp Tryz.prog (Code.region 0 #[⟨some 2,.move (.tmp 0),151, "l14_rec_take.go:161",#[],none⟩,⟨some 3,.nilCheck (.tmp 2),0, "l14_rec_take.go:161",#[⟨0,.data⟩],none⟩,⟨some 4,.fieldAddr 134 (.tmp 3) 2,0, "l14_rec_take.go:161",#[⟨1,.data⟩],none⟩,⟨some 5,.load 131 (.tmp 4),131, "l14_rec_take.go:161",#[⟨2,.data⟩],none⟩,⟨some 6,.move (.tmp 0),151, "l14_rec_take.go:161",#[],none⟩,⟨some 7,.nilCheck (.tmp 6),0, "l14_rec_take.go:161",#[⟨4,.data⟩],none⟩,⟨some 8,.fieldAddr 134 (.tmp 7) 1,0, "l14_rec_take.go:161",#[⟨5,.data⟩],none⟩,⟨some 9,.fieldAddr 52 (.tmp 8) 1,0, "l14_rec_take.go:161",#[⟨6,.data⟩],none⟩,⟨some 10,.load 3 (.tmp 9),3, "l14_rec_take.go:161",#[⟨7,.data⟩],none⟩,⟨some 11,.move (.tmp 0),151, "l14_rec_take.go:161",#[],none⟩,⟨some 12,.nilCheck (.tmp 11),0, "l14_rec_take.go:161",#[⟨9,.data⟩],none⟩,⟨some 13,.fieldAddr 134 (.tmp 12) 0,0, "l14_rec_take.go:161",#[⟨10,.data⟩],none⟩,⟨some 14,.load 81 (.tmp 13),81, "l14_rec_take.go:161",#[⟨11,.data⟩],none⟩,⟨some 15,.nilCheck (.tmp 14),0, "l14_rec_take.go:161",#[⟨12,.data⟩],none⟩,⟨some 16,.fieldAddr 38 (.tmp 15) 4,0, "l14_rec_take.go:161",#[⟨13,.data⟩],none⟩,⟨some 17,.fieldAddr 34 (.tmp 16) 0,0, "l14_rec_take.go:161",#[⟨14,.data⟩],none⟩,⟨some 18,.load 3 (.tmp 17),3, "l14_rec_take.go:161",#[⟨15,.data⟩],none⟩,⟨some 19,.build 52 #[(0,.const (.int .i64 9)),(2,.tmp 10),(3,.tmp 18)],52, "l14_rec_take.go:161",#[⟨8,.data⟩,⟨16,.data⟩],none⟩,⟨some 20,.call ⟨.value (.tmp 5),#[.tmp 19],#[52]⟩,0, "l14_rec_take.go:161",#[⟨3,.data⟩,⟨17,.data⟩],none⟩] true) Q ⟨#[.pointer (some ⟨D,0,none⟩),p1,w0,w1,w2,w3,w4,w5,w6,w7,w8,w9,w10,w11,w12,w13,w14,w15,w16,w17,p20],[]⟩ W:=by
 refine ZL (by kernel_rfl) 18 (fun t:Nat→Value=>#[.pointer (some ⟨D,0,none⟩),p1,t 0,t 1,t 2,t 3,t 4,t 5,t 6,t 7,t 8,t 9,t 10,t 11,t 12,t 13,t 14,t 15,t 16,t 17,p20]) (fun i=>match i with|0=>w0|1=>w1|2=>w2|3=>w3|4=>w4|5=>w5|6=>w6|7=>w7|8=>w8|9=>w9|10=>w10|11=>w11|12=>w12|13=>w13|14=>w14|15=>w15|16=>w16|_=>w17) (refReg0G D B qh m ma mc r p W) (fun a X=>∃ (t:Nat→Value) (v3:Value),a=⟨#[.pointer (some ⟨D,0,none⟩),p1,t 0,t 1,t 2,t 3,t 4,t 5,t 6,t 7,t 8,t 9,t 10,t 11,t 12,t 13,t 14,t 15,t 16,t 17,v3],[]⟩∧DoR B r p (Zo r ⟨9,0,m.from_,r.dk.pr,0,0,⟨#[]⟩,0,fun _=>⟨0,⟨#[]⟩⟩⟩) W (.returned (.tuple #[])) X) (by kernel_rfl) (by kernel_rfl) (by kernel_rfl) ?_ rfl ?_ ?_ ?_
 ·exact fun _ _ _ _ _ h _=>h
 ·intro i hi t X K hb hg hK
  rcases (show i=0∨i=1∨i=2∨i=3∨i=4∨i=5∨i=6∨i=7∨i=8∨i=9∨i=10∨i=11∨i=12∨i=13∨i=14∨i=15∨i=16∨i=17 by omega) with rfl|rfl|rfl|rfl|rfl|rfl|rfl|rfl|rfl|rfl|rfl|rfl|rfl|rfl|rfl|rfl|rfl|rfl
  ·exact sg
  ·have ea:t 0=.pointer (some ⟨D,0,none⟩):=hg 0 (Wt rfl)
   exact sg
  ·have ea:t 1=.pointer (some ⟨D,0,none⟩):=hg 1 (Wt rfl)
   exact sg
  ·have ea:t 2=.pointer (some ⟨D,9,none⟩):=hg 2 (Wt rfl)
   have f1:=(hb.cell (p:=⟨D,9,none⟩) hD).trans cD9
   exact sg
  ·exact sg
  ·have ea:t 4=.pointer (some ⟨D,0,none⟩):=hg 4 (Wt rfl)
   exact sg
  ·have ea:t 5=.pointer (some ⟨D,0,none⟩):=hg 5 (Wt rfl)
   exact sg
  ·have ea:t 6=.pointer (some ⟨D,1,none⟩):=hg 6 (Wt rfl)
   exact sg
  ·exact apGn4
  ·exact sg
  ·have ea:t 9=.pointer (some ⟨D,0,none⟩):=hg 9 (Wt rfl)
   exact sg
  ·have ea:t 10=.pointer (some ⟨D,0,none⟩):=hg 10 (Wt rfl)
   exact sg
  ·have ea:t 11=.pointer (some ⟨D,0,none⟩):=hg 11 (Wt rfl)
   have f1:=(hb.cell (p:=⟨D,0,none⟩) hD).trans cD0
   exact sg
  ·have ea:t 12=.pointer (some ⟨B,0,none⟩):=hg 12 (Wt rfl)
   exact sg
  ·have ea:t 13=.pointer (some ⟨B,0,none⟩):=hg 13 (Wt rfl)
   exact sg
  ·have ea:t 14=.pointer (some ⟨B,6,none⟩):=hg 14 (Wt rfl)
   exact sg
  ·have ea:t 15=.pointer (some ⟨B,6,none⟩):=hg 15 (Wt rfl)
   have f1:=(hb.cell (p:=⟨B,6,none⟩) hB).trans cB6
   exact sg
  ·have ea:t 8=.int .i64 m.from_:=hg 8 (Wt rfl)
   have eb:t 16=.int .i64 r.dk.pr:=hg 16 (Wt rfl)
   exact sg
 ·intro t X K hb hg hK
  have eF:t 3=.func (.func 150) #[] #[.pointer (some ⟨qh,0,none⟩)]:=hg 3 (by omega)
  have eM:t 17=.agg #[.int .i64 9,.int .i64 0,.int .i64 m.from_,.int .i64 r.dk.pr,.int .i64 0,.int .i64 0,.string ⟨#[]⟩,.slice none 0 0]:=hg 17 (by omega)
  refine Zi rfl rfl ?_
  have HK:=hid hK
  have HC:=hid (hQc X hb)
  clear hK hg hQc
  simp only [eF,eM]
  go_simp
  go_at_call 150
  refine HC.out.mono ?_
  rintro e Y hdo
  have he:=hdo.1
  subst he
  have h:=HK.out _ Y ⟨t,.tuple #[],rfl,hdo⟩
  simpa [eF,eM] using h
 ·rintro a X ⟨t,v3,rfl,hp⟩
  exact hQ t v3 X hp
set_option maxRecDepth 100000 in
theorem UF (D B qh:Nat) (m:Ms) (ma:Option Addr) (mc:Nat) (r:Rc) (p:RcP) (w:World) (h:DskAt w D B qh m ma mc r p) :
  Calls Tryz.prog 151 #[.pointer (some ⟨D,0,none⟩)] w fun e w'=>DoR B r p (Zo r ⟨9,0,m.from_,r.dk.pr,0,0,⟨#[]⟩,0,fun _=>⟨0,⟨#[]⟩⟩⟩) w e w':=by
 have H:=hid h
 clear h
 go_enter Tryz.func151,Tryz.ntmps151
 go_wp2
 refine refReg0 _ _ _ _ _ _ _ _ _ _ _ _ _ _ _ _ _ _ _ _ D B qh m ma mc r p w H.out.dk.lt H.out.bx.lt (H.out.bx.cell 6) (H.out.dk.cell 0) (H.out.dk.cell 2) (H.out.dk.cell 9) (fun X hb=>Un D B qh m ma mc r p X (H.out.grow hb) ⟨9,0,m.from_,r.dk.pr,0,0,⟨#[]⟩,0,fun _=>⟨0,⟨#[]⟩⟩⟩ none 0 0 ⟨fun h=>absurd h (Nat.lt_irrefl _),fun h=>absurd h (Nat.lt_irrefl _)⟩ (fun h=>absurd rfl h) w hb (fun h=>absurd rfl h)) _ ?_
 intro t v3 X hdo
 have HD:=hid hdo
 clear hdo
 go_wp2
 refine bodyPost_end (results_none rfl _ _ _) rfl ?_
 exact HD.out
def preReg2G (D B _qh:Nat) (m:Ms) (_ma:Option Addr) (_mc:Nat) (_r:Rc) (_p:RcP) (_R:World→Prop) (_W:World) (i:Nat) (v:Value) (_X:World):Prop:=
 match i with
 | 0=>v=.pointer (some ⟨D,0,none⟩)
 | 1=>v=.pointer (some ⟨D,0,none⟩)
 | 2=>v=.pointer (some ⟨D,0,none⟩)
 | 3=>v=.pointer (some ⟨B,0,none⟩)
 | 4=>v=.pointer (some ⟨D,0,none⟩)
 | 5=>v=.pointer (some ⟨D,0,none⟩)
 | 6=>v=.pointer (some ⟨D,1,none⟩)
 | 7=>v=.pointer (some ⟨D,4,none⟩)
 | 8=>v=.int .i64 m.bal
 | _=>True
theorem apGn2 {P:Prop} (h:P:=by
  have ea:t 2=.pointer (some ⟨D,0,none⟩):=hg 2 (Wt rfl)
  have f1:=(hb.cell (p:=⟨D,0,none⟩) hD).trans cD0
  exact sg):P:=h
theorem apGn1 {P:Prop} (h:P:=by
  intro i hi t X K hb hg hK
  rcases (show i=0∨i=1∨i=2∨i=3∨i=4∨i=5∨i=6∨i=7∨i=8 by omega) with rfl|rfl|rfl|rfl|rfl|rfl|rfl|rfl|rfl
  ·exact sg
  ·have ea:t 0=.pointer (some ⟨D,0,none⟩):=hg 0 (Wt rfl)
   exact sg
  ·have ea:t 1=.pointer (some ⟨D,0,none⟩):=hg 1 (Wt rfl)
   exact sg
  ·exact apGn2
  ·exact sg
  ·have ea:t 4=.pointer (some ⟨D,0,none⟩):=hg 4 (Wt rfl)
   exact sg
  ·have ea:t 5=.pointer (some ⟨D,0,none⟩):=hg 5 (Wt rfl)
   exact sg
  ·have ea:t 6=.pointer (some ⟨D,1,none⟩):=hg 6 (Wt rfl)
   exact sg
  ·have ea:t 7=.pointer (some ⟨D,4,none⟩):=hg 7 (Wt rfl)
   have f1:=(hb.cell (p:=⟨D,4,none⟩) hD).trans cD4
   exact sg):P:=h
theorem apGn3 {P:Prop} (h:P:=by
  intro t X K hb hg hK
  have e3:t 3=.pointer (some ⟨B,0,none⟩):=hg 3 (by omega)
  have e8:t 8=.int .i64 m.bal:=hg 8 (by omega)
  refine Zi rfl rfl ?_
  have HK:=hid hK
  have HC:=hid (hQc X hb)
  clear hK hg hQc
  simp only [e3,e8]
  go_simp
  go_at_call 152
  refine HC.out.mono ?_
  rintro e Y ⟨rfl,hR⟩
  have h:=HK.out _ Y ⟨t,.tuple #[],rfl,hR⟩
  simpa [e3,e8] using h):P:=h
set_option maxRecDepth 100000 in
theorem preReg2 (p1 p2 p3 p4 p5 p6 p7 p8 p9 p10 p11 p12 p13 p14 p15 p16 p17 p27 p28 p29 p30 p31 p32 p33 p34 p35 p36 p37 p38 p39 p40 p41 p42 p43 p44 p45 p46 p47 p48 p49 p50 p51 p52:Value) (w0 w1 w2 w3 w4 w5 w6 w7 w8:Value) (D B qh:Nat) (m:Ms) (ma:Option Addr) (mc:Nat) (r:Rc) (p:RcP) (R:World→Prop) (W:World) (hD:D<W.1.size) (_hB:B<W.1.size) (cD0:W.cell? ⟨D,0,none⟩=some (.pointer (some ⟨B,0,none⟩))) (cD4:W.cell? ⟨D,4,none⟩=some (.int .i64 m.bal)) (hQc:∀ X,Below W.1.size W X→Calls Tryz.prog 152 #[.pointer (some ⟨B,0,none⟩),.int .i64 m.bal] X fun e w'=>e=.returned (.tuple #[])∧R w') (Q:Exit→Act→World→Prop) (hQ:∀ (t:Nat→Value) (v3:Value) X,R X→Q .normal ⟨#[.pointer (some ⟨D,0,none⟩),p1,p2,p3,p4,p5,p6,p7,p8,p9,p10,p11,p12,p13,p14,p15,p16,p17,t 0,t 1,t 2,t 3,t 4,t 5,t 6,t 7,t 8,v3,p28,p29,p30,p31,p32,p33,p34,p35,p36,p37,p38,p39,p40,p41,p42,p43,p44,p45,p46,p47,p48,p49,p50,p51,p52],[]⟩ X) :
  Code.wp Tryz.prog (Code.region 2 #[⟨some 18,.move (.tmp 0),151, "l14_rec_take.go:71",#[],none⟩,⟨some 19,.nilCheck (.tmp 18),0, "l14_rec_take.go:71",#[⟨0,.data⟩],none⟩,⟨some 20,.fieldAddr 134 (.tmp 19) 0,0, "l14_rec_take.go:71",#[⟨1,.data⟩],none⟩,⟨some 21,.load 81 (.tmp 20),81, "l14_rec_take.go:71",#[⟨2,.data⟩],none⟩,⟨some 22,.move (.tmp 0),151, "l14_rec_take.go:71",#[],none⟩,⟨some 23,.nilCheck (.tmp 22),0, "l14_rec_take.go:71",#[⟨4,.data⟩],none⟩,⟨some 24,.fieldAddr 134 (.tmp 23) 1,0, "l14_rec_take.go:71",#[⟨5,.data⟩],none⟩,⟨some 25,.fieldAddr 52 (.tmp 24) 3,0, "l14_rec_take.go:71",#[⟨6,.data⟩],none⟩,⟨some 26,.load 3 (.tmp 25),3, "l14_rec_take.go:71",#[⟨7,.data⟩],none⟩,⟨some 27,.call ⟨.value (.func 152),#[.tmp 21,.tmp 26],#[81,3]⟩,0, "l14_rec_take.go:71",#[⟨3,.data⟩,⟨8,.data⟩],none⟩] true) Q ⟨#[.pointer (some ⟨D,0,none⟩),p1,p2,p3,p4,p5,p6,p7,p8,p9,p10,p11,p12,p13,p14,p15,p16,p17,w0,w1,w2,w3,w4,w5,w6,w7,w8,p27,p28,p29,p30,p31,p32,p33,p34,p35,p36,p37,p38,p39,p40,p41,p42,p43,p44,p45,p46,p47,p48,p49,p50,p51,p52],[]⟩ W:=by
 refine ZL (by kernel_rfl) 9 (fun t:Nat→Value=>#[.pointer (some ⟨D,0,none⟩),p1,p2,p3,p4,p5,p6,p7,p8,p9,p10,p11,p12,p13,p14,p15,p16,p17,t 0,t 1,t 2,t 3,t 4,t 5,t 6,t 7,t 8,p27,p28,p29,p30,p31,p32,p33,p34,p35,p36,p37,p38,p39,p40,p41,p42,p43,p44,p45,p46,p47,p48,p49,p50,p51,p52]) (fun i=>match i with|0=>w0|1=>w1|2=>w2|3=>w3|4=>w4|5=>w5|6=>w6|7=>w7|_=>w8) (preReg2G D B qh m ma mc r p R W) (fun a X=>∃ (t:Nat→Value) (v3:Value),a=⟨#[.pointer (some ⟨D,0,none⟩),p1,p2,p3,p4,p5,p6,p7,p8,p9,p10,p11,p12,p13,p14,p15,p16,p17,t 0,t 1,t 2,t 3,t 4,t 5,t 6,t 7,t 8,v3,p28,p29,p30,p31,p32,p33,p34,p35,p36,p37,p38,p39,p40,p41,p42,p43,p44,p45,p46,p47,p48,p49,p50,p51,p52],[]⟩∧R X) (by kernel_rfl) (by kernel_rfl) (by kernel_rfl) ?_ rfl ?_ ?_ ?_
 ·exact fun _ _ _ _ _ h _=>h
 ·exact apGn1
 ·exact apGn3
 ·rintro a X ⟨t,v3,rfl,hp⟩
  exact hQ t v3 X hp
def prmReg1G (D B _qh:Nat) (m:Ms) (ma:Option Addr) (mc:Nat) (_r:Rc) (_p:RcP) (_R:World→Prop) (_W:World) (i:Nat) (v:Value) (_X:World):Prop:=
 match i with
 | 0=>v=.pointer (some ⟨D,0,none⟩)
 | 1=>v=.pointer (some ⟨D,0,none⟩)
 | 2=>v=.pointer (some ⟨D,0,none⟩)
 | 3=>v=.pointer (some ⟨B,0,none⟩)
 | 4=>v=.pointer (some ⟨D,0,none⟩)
 | 5=>v=.pointer (some ⟨D,0,none⟩)
 | 6=>v=.pointer (some ⟨D,1,none⟩)
 | 7=>v=.pointer (some ⟨D,2,none⟩)
 | 8=>v=.int .i64 m.from_
 | 9=>v=.pointer (some ⟨D,0,none⟩)
 | 10=>v=.pointer (some ⟨D,0,none⟩)
 | 11=>v=.pointer (some ⟨D,1,none⟩)
 | 12=>v=.pointer (some ⟨D,8,none⟩)
 | 13=>v=.slice ma m.n mc
 | _=>True
set_option maxRecDepth 100000 in
theorem prmReg1 (p1 p2 p3 p4 p5 p6 p7 p8 p9 p10 p11 p12 p13 p14 p15 p16 p17 p18 p19 p20 p21 p22 p23 p38:Value) (w0 w1 w2 w3 w4 w5 w6 w7 w8 w9 w10 w11 w12 w13:Value) (D B qh:Nat) (m:Ms) (ma:Option Addr) (mc:Nat) (r:Rc) (p:RcP) (R:World→Prop) (W:World) (hD:D<W.1.size) (_hB:B<W.1.size) (cD0:W.cell? ⟨D,0,none⟩=some (.pointer (some ⟨B,0,none⟩))) (cD2:W.cell? ⟨D,2,none⟩=some (.int .i64 m.from_)) (cD8:W.cell? ⟨D,8,none⟩=some (.slice ma m.n mc)) (hQc:∀ X,Below W.1.size W X→Calls Tryz.prog 142 #[.pointer (some ⟨B,0,none⟩),.int .i64 m.from_,.slice ma m.n mc] X fun e w'=>e=.returned (.tuple #[])∧R w') (Q:Exit→Act→World→Prop) (hQ:∀ (t:Nat→Value) (v3:Value) X,R X→Q .normal ⟨#[.pointer (some ⟨D,0,none⟩),p1,p2,p3,p4,p5,p6,p7,p8,p9,p10,p11,p12,p13,p14,p15,p16,p17,p18,p19,p20,p21,p22,p23,t 0,t 1,t 2,t 3,t 4,t 5,t 6,t 7,t 8,t 9,t 10,t 11,t 12,t 13,v3],[]⟩ X) :
  Code.wp Tryz.prog (Code.region 1 #[⟨some 24,.move (.tmp 0),151, "l14_rec_take.go:77",#[],none⟩,⟨some 25,.nilCheck (.tmp 24),0, "l14_rec_take.go:77",#[⟨0,.data⟩],none⟩,⟨some 26,.fieldAddr 134 (.tmp 25) 0,0, "l14_rec_take.go:77",#[⟨1,.data⟩],none⟩,⟨some 27,.load 81 (.tmp 26),81, "l14_rec_take.go:77",#[⟨2,.data⟩],none⟩,⟨some 28,.move (.tmp 0),151, "l14_rec_take.go:77",#[],none⟩,⟨some 29,.nilCheck (.tmp 28),0, "l14_rec_take.go:77",#[⟨4,.data⟩],none⟩,⟨some 30,.fieldAddr 134 (.tmp 29) 1,0, "l14_rec_take.go:77",#[⟨5,.data⟩],none⟩,⟨some 31,.fieldAddr 52 (.tmp 30) 1,0, "l14_rec_take.go:77",#[⟨6,.data⟩],none⟩,⟨some 32,.load 3 (.tmp 31),3, "l14_rec_take.go:77",#[⟨7,.data⟩],none⟩,⟨some 33,.move (.tmp 0),151, "l14_rec_take.go:77",#[],none⟩,⟨some 34,.nilCheck (.tmp 33),0, "l14_rec_take.go:77",#[⟨9,.data⟩],none⟩,⟨some 35,.fieldAddr 134 (.tmp 34) 1,0, "l14_rec_take.go:77",#[⟨10,.data⟩],none⟩,⟨some 36,.fieldAddr 52 (.tmp 35) 7,0, "l14_rec_take.go:77",#[⟨11,.data⟩],none⟩,⟨some 37,.load 32 (.tmp 36),32, "l14_rec_take.go:77",#[⟨12,.data⟩],none⟩,⟨some 38,.call ⟨.value (.func 142),#[.tmp 27,.tmp 32,.tmp 37],#[81,3,32]⟩,0, "l14_rec_take.go:77",#[⟨3,.data⟩,⟨8,.data⟩,⟨13,.data⟩],none⟩] true) Q ⟨#[.pointer (some ⟨D,0,none⟩),p1,p2,p3,p4,p5,p6,p7,p8,p9,p10,p11,p12,p13,p14,p15,p16,p17,p18,p19,p20,p21,p22,p23,w0,w1,w2,w3,w4,w5,w6,w7,w8,w9,w10,w11,w12,w13,p38],[]⟩ W:=by
 refine ZL (by kernel_rfl) 14 (fun t:Nat→Value=>#[.pointer (some ⟨D,0,none⟩),p1,p2,p3,p4,p5,p6,p7,p8,p9,p10,p11,p12,p13,p14,p15,p16,p17,p18,p19,p20,p21,p22,p23,t 0,t 1,t 2,t 3,t 4,t 5,t 6,t 7,t 8,t 9,t 10,t 11,t 12,t 13,p38]) (fun i=>match i with|0=>w0|1=>w1|2=>w2|3=>w3|4=>w4|5=>w5|6=>w6|7=>w7|8=>w8|9=>w9|10=>w10|11=>w11|12=>w12|_=>w13) (prmReg1G D B qh m ma mc r p R W) (fun a X=>∃ (t:Nat→Value) (v3:Value),a=⟨#[.pointer (some ⟨D,0,none⟩),p1,p2,p3,p4,p5,p6,p7,p8,p9,p10,p11,p12,p13,p14,p15,p16,p17,p18,p19,p20,p21,p22,p23,t 0,t 1,t 2,t 3,t 4,t 5,t 6,t 7,t 8,t 9,t 10,t 11,t 12,t 13,v3],[]⟩∧R X) (by kernel_rfl) (by kernel_rfl) (by kernel_rfl) ?_ rfl ?_ ?_ ?_
 ·exact fun _ _ _ _ _ h _=>h
 ·intro i hi t X K hb hg hK
  rcases (show i=0∨i=1∨i=2∨i=3∨i=4∨i=5∨i=6∨i=7∨i=8∨i=9∨i=10∨i=11∨i=12∨i=13 by omega) with rfl|rfl|rfl|rfl|rfl|rfl|rfl|rfl|rfl|rfl|rfl|rfl|rfl|rfl
  ·exact sg
  ·have ea:t 0=.pointer (some ⟨D,0,none⟩):=hg 0 (Wt rfl)
   exact sg
  ·have ea:t 1=.pointer (some ⟨D,0,none⟩):=hg 1 (Wt rfl)
   exact sg
  ·exact apGn2
  ·exact sg
  ·have ea:t 4=.pointer (some ⟨D,0,none⟩):=hg 4 (Wt rfl)
   exact sg
  ·have ea:t 5=.pointer (some ⟨D,0,none⟩):=hg 5 (Wt rfl)
   exact sg
  ·have ea:t 6=.pointer (some ⟨D,1,none⟩):=hg 6 (Wt rfl)
   exact sg
  ·exact apGn4
  ·exact sg
  ·have ea:t 9=.pointer (some ⟨D,0,none⟩):=hg 9 (Wt rfl)
   exact sg
  ·have ea:t 10=.pointer (some ⟨D,0,none⟩):=hg 10 (Wt rfl)
   exact sg
  ·have ea:t 11=.pointer (some ⟨D,1,none⟩):=hg 11 (Wt rfl)
   exact sg
  ·have ea:t 12=.pointer (some ⟨D,8,none⟩):=hg 12 (Wt rfl)
   have f1:=(hb.cell (p:=⟨D,8,none⟩) hD).trans cD8
   exact sg
 ·intro t X K hb hg hK
  have e3:t 3=.pointer (some ⟨B,0,none⟩):=hg 3 (by omega)
  have e8:t 8=.int .i64 m.from_:=hg 8 (by omega)
  have e13:t 13=.slice ma m.n mc:=hg 13 (by omega)
  refine Zi rfl rfl ?_
  have HK:=hid hK
  have HC:=hid (hQc X hb)
  clear hK hg hQc
  simp only [e3,e8,e13]
  go_simp
  go_at_call 142
  refine HC.out.mono ?_
  rintro e Y ⟨rfl,hR⟩
  have h:=HK.out _ Y ⟨t,.tuple #[],rfl,hR⟩
  simpa [e3,e8,e13] using h
 ·rintro a X ⟨t,v3,rfl,hp⟩
  exact hQ t v3 X hp
def acdReg1G (D B _qh:Nat) (m:Ms) (_ma:Option Addr) (_mc:Nat) (_r:Rc) (_p:RcP) (_R:World→Prop) (_W:World) (i:Nat) (v:Value) (_X:World):Prop:=
 match i with
 | 0=>v=.pointer (some ⟨D,0,none⟩)
 | 1=>v=.pointer (some ⟨D,0,none⟩)
 | 2=>v=.pointer (some ⟨D,0,none⟩)
 | 3=>v=.pointer (some ⟨B,0,none⟩)
 | 4=>v=.pointer (some ⟨D,0,none⟩)
 | 5=>v=.pointer (some ⟨D,0,none⟩)
 | 6=>v=.pointer (some ⟨D,1,none⟩)
 | 7=>v=.pointer (some ⟨D,2,none⟩)
 | 8=>v=.int .i64 m.from_
 | 9=>v=.pointer (some ⟨D,0,none⟩)
 | 10=>v=.pointer (some ⟨D,0,none⟩)
 | 11=>v=.pointer (some ⟨D,1,none⟩)
 | 12=>v=.pointer (some ⟨D,5,none⟩)
 | 13=>v=.int .i64 m.ix
 | _=>True
set_option maxRecDepth 100000 in
theorem acdReg1 (p1 p2 p3 p4 p5 p6 p7 p8 p9 p10 p11 p12 p13 p14 p15 p16 p17 p18 p19 p20 p21 p22 p23 p24 p25 p26 p27 p28 p29 p30 p31 p46:Value) (w0 w1 w2 w3 w4 w5 w6 w7 w8 w9 w10 w11 w12 w13:Value) (D B qh:Nat) (m:Ms) (ma:Option Addr) (mc:Nat) (r:Rc) (p:RcP) (R:World→Prop) (W:World) (hD:D<W.1.size) (_hB:B<W.1.size) (cD0:W.cell? ⟨D,0,none⟩=some (.pointer (some ⟨B,0,none⟩))) (cD2:W.cell? ⟨D,2,none⟩=some (.int .i64 m.from_)) (cD5:W.cell? ⟨D,5,none⟩=some (.int .i64 m.ix)) (hQc:∀ X,Below W.1.size W X→Calls Tryz.prog 155 #[.pointer (some ⟨B,0,none⟩),.int .i64 m.from_,.int .i64 m.ix] X fun e w'=>e=.returned (.tuple #[])∧R w') (Q:Exit→Act→World→Prop) (hQ:∀ (t:Nat→Value) (v3:Value) X,R X→Q .normal ⟨#[.pointer (some ⟨D,0,none⟩),p1,p2,p3,p4,p5,p6,p7,p8,p9,p10,p11,p12,p13,p14,p15,p16,p17,p18,p19,p20,p21,p22,p23,p24,p25,p26,p27,p28,p29,p30,p31,t 0,t 1,t 2,t 3,t 4,t 5,t 6,t 7,t 8,t 9,t 10,t 11,t 12,t 13,v3],[]⟩ X) :
  Code.wp Tryz.prog (Code.region 1 #[⟨some 32,.move (.tmp 0),151, "l14_rec_take.go:98",#[],none⟩,⟨some 33,.nilCheck (.tmp 32),0, "l14_rec_take.go:98",#[⟨0,.data⟩],none⟩,⟨some 34,.fieldAddr 134 (.tmp 33) 0,0, "l14_rec_take.go:98",#[⟨1,.data⟩],none⟩,⟨some 35,.load 81 (.tmp 34),81, "l14_rec_take.go:98",#[⟨2,.data⟩],none⟩,⟨some 36,.move (.tmp 0),151, "l14_rec_take.go:98",#[],none⟩,⟨some 37,.nilCheck (.tmp 36),0, "l14_rec_take.go:98",#[⟨4,.data⟩],none⟩,⟨some 38,.fieldAddr 134 (.tmp 37) 1,0, "l14_rec_take.go:98",#[⟨5,.data⟩],none⟩,⟨some 39,.fieldAddr 52 (.tmp 38) 1,0, "l14_rec_take.go:98",#[⟨6,.data⟩],none⟩,⟨some 40,.load 3 (.tmp 39),3, "l14_rec_take.go:98",#[⟨7,.data⟩],none⟩,⟨some 41,.move (.tmp 0),151, "l14_rec_take.go:98",#[],none⟩,⟨some 42,.nilCheck (.tmp 41),0, "l14_rec_take.go:98",#[⟨9,.data⟩],none⟩,⟨some 43,.fieldAddr 134 (.tmp 42) 1,0, "l14_rec_take.go:98",#[⟨10,.data⟩],none⟩,⟨some 44,.fieldAddr 52 (.tmp 43) 4,0, "l14_rec_take.go:98",#[⟨11,.data⟩],none⟩,⟨some 45,.load 3 (.tmp 44),3, "l14_rec_take.go:98",#[⟨12,.data⟩],none⟩,⟨some 46,.call ⟨.value (.func 155),#[.tmp 35,.tmp 40,.tmp 45],#[81,3,3]⟩,0, "l14_rec_take.go:98",#[⟨3,.data⟩,⟨8,.data⟩,⟨13,.data⟩],none⟩] true) Q ⟨#[.pointer (some ⟨D,0,none⟩),p1,p2,p3,p4,p5,p6,p7,p8,p9,p10,p11,p12,p13,p14,p15,p16,p17,p18,p19,p20,p21,p22,p23,p24,p25,p26,p27,p28,p29,p30,p31,w0,w1,w2,w3,w4,w5,w6,w7,w8,w9,w10,w11,w12,w13,p46],[]⟩ W:=by
 refine ZL (by kernel_rfl) 14 (fun t:Nat→Value=>#[.pointer (some ⟨D,0,none⟩),p1,p2,p3,p4,p5,p6,p7,p8,p9,p10,p11,p12,p13,p14,p15,p16,p17,p18,p19,p20,p21,p22,p23,p24,p25,p26,p27,p28,p29,p30,p31,t 0,t 1,t 2,t 3,t 4,t 5,t 6,t 7,t 8,t 9,t 10,t 11,t 12,t 13,p46]) (fun i=>match i with|0=>w0|1=>w1|2=>w2|3=>w3|4=>w4|5=>w5|6=>w6|7=>w7|8=>w8|9=>w9|10=>w10|11=>w11|12=>w12|_=>w13) (acdReg1G D B qh m ma mc r p R W) (fun a X=>∃ (t:Nat→Value) (v3:Value),a=⟨#[.pointer (some ⟨D,0,none⟩),p1,p2,p3,p4,p5,p6,p7,p8,p9,p10,p11,p12,p13,p14,p15,p16,p17,p18,p19,p20,p21,p22,p23,p24,p25,p26,p27,p28,p29,p30,p31,t 0,t 1,t 2,t 3,t 4,t 5,t 6,t 7,t 8,t 9,t 10,t 11,t 12,t 13,v3],[]⟩∧R X) (by kernel_rfl) (by kernel_rfl) (by kernel_rfl) ?_ rfl ?_ ?_ ?_
 ·exact fun _ _ _ _ _ h _=>h
 ·intro i hi t X K hb hg hK
  rcases (show i=0∨i=1∨i=2∨i=3∨i=4∨i=5∨i=6∨i=7∨i=8∨i=9∨i=10∨i=11∨i=12∨i=13 by omega) with rfl|rfl|rfl|rfl|rfl|rfl|rfl|rfl|rfl|rfl|rfl|rfl|rfl|rfl
  ·exact sg
  ·have ea:t 0=.pointer (some ⟨D,0,none⟩):=hg 0 (Wt rfl)
   exact sg
  ·have ea:t 1=.pointer (some ⟨D,0,none⟩):=hg 1 (Wt rfl)
   exact sg
  ·exact apGn2
  ·exact sg
  ·have ea:t 4=.pointer (some ⟨D,0,none⟩):=hg 4 (Wt rfl)
   exact sg
  ·have ea:t 5=.pointer (some ⟨D,0,none⟩):=hg 5 (Wt rfl)
   exact sg
  ·have ea:t 6=.pointer (some ⟨D,1,none⟩):=hg 6 (Wt rfl)
   exact sg
  ·exact apGn4
  ·exact sg
  ·have ea:t 9=.pointer (some ⟨D,0,none⟩):=hg 9 (Wt rfl)
   exact sg
  ·have ea:t 10=.pointer (some ⟨D,0,none⟩):=hg 10 (Wt rfl)
   exact sg
  ·have ea:t 11=.pointer (some ⟨D,1,none⟩):=hg 11 (Wt rfl)
   exact sg
  ·have ea:t 12=.pointer (some ⟨D,5,none⟩):=hg 12 (Wt rfl)
   have f1:=(hb.cell (p:=⟨D,5,none⟩) hD).trans cD5
   exact sg
 ·intro t X K hb hg hK
  have e3:t 3=.pointer (some ⟨B,0,none⟩):=hg 3 (by omega)
  have e8:t 8=.int .i64 m.from_:=hg 8 (by omega)
  have e13:t 13=.int .i64 m.ix:=hg 13 (by omega)
  refine Zi rfl rfl ?_
  have HK:=hid hK
  have HC:=hid (hQc X hb)
  clear hK hg hQc
  simp only [e3,e8,e13]
  go_simp
  go_at_call 155
  refine HC.out.mono ?_
  rintro e Y ⟨rfl,hR⟩
  have h:=HK.out _ Y ⟨t,.tuple #[],rfl,hR⟩
  simpa [e3,e8,e13] using h
 ·rintro a X ⟨t,v3,rfl,hp⟩
  exact hQ t v3 X hp
def wisReg0G (D B _qh:Nat) (m:Ms) (_ma:Option Addr) (_mc:Nat) (_r:Rc) (_p:RcP) (_R:World→Prop) (_W:World) (i:Nat) (v:Value) (_X:World):Prop:=
 match i with
 | 0=>v=.pointer (some ⟨D,0,none⟩)
 | 1=>v=.pointer (some ⟨D,0,none⟩)
 | 2=>v=.pointer (some ⟨D,0,none⟩)
 | 3=>v=.pointer (some ⟨B,0,none⟩)
 | 4=>v=.pointer (some ⟨D,0,none⟩)
 | 5=>v=.pointer (some ⟨D,0,none⟩)
 | 6=>v=.pointer (some ⟨D,1,none⟩)
 | 7=>v=.pointer (some ⟨D,7,none⟩)
 | 8=>v=.string m.text
 | _=>True
set_option maxRecDepth 100000 in
theorem wisReg0 (p1 p11:Value) (w0 w1 w2 w3 w4 w5 w6 w7 w8:Value) (D B qh:Nat) (m:Ms) (ma:Option Addr) (mc:Nat) (r:Rc) (p:RcP) (R:World→Prop) (W:World) (hD:D<W.1.size) (_hB:B<W.1.size) (cD0:W.cell? ⟨D,0,none⟩=some (.pointer (some ⟨B,0,none⟩))) (cD7:W.cell? ⟨D,7,none⟩=some (.string m.text)) (hQc:∀ X,Below W.1.size W X→Calls Tryz.prog 72 #[.pointer (some ⟨B,0,none⟩),.string m.text] X fun e w'=>e=.returned (.tuple #[])∧R w') (Q:Exit→Act→World→Prop) (hQ:∀ (t:Nat→Value) (v3:Value) X,R X→Q .normal ⟨#[.pointer (some ⟨D,0,none⟩),p1,t 0,t 1,t 2,t 3,t 4,t 5,t 6,t 7,t 8,v3],[]⟩ X) :
  Code.wp Tryz.prog (Code.region 0 #[⟨some 2,.move (.tmp 0),151, "l14_rec_take.go:143",#[],none⟩,⟨some 3,.nilCheck (.tmp 2),0, "l14_rec_take.go:143",#[⟨0,.data⟩],none⟩,⟨some 4,.fieldAddr 134 (.tmp 3) 0,0, "l14_rec_take.go:143",#[⟨1,.data⟩],none⟩,⟨some 5,.load 81 (.tmp 4),81, "l14_rec_take.go:143",#[⟨2,.data⟩],none⟩,⟨some 6,.move (.tmp 0),151, "l14_rec_take.go:143",#[],none⟩,⟨some 7,.nilCheck (.tmp 6),0, "l14_rec_take.go:143",#[⟨4,.data⟩],none⟩,⟨some 8,.fieldAddr 134 (.tmp 7) 1,0, "l14_rec_take.go:143",#[⟨5,.data⟩],none⟩,⟨some 9,.fieldAddr 52 (.tmp 8) 6,0, "l14_rec_take.go:143",#[⟨6,.data⟩],none⟩,⟨some 10,.load 9 (.tmp 9),9, "l14_rec_take.go:143",#[⟨7,.data⟩],none⟩,⟨some 11,.call ⟨.value (.func 72),#[.tmp 5,.tmp 10],#[81,9]⟩,0, "l14_rec_take.go:143",#[⟨3,.data⟩,⟨8,.data⟩],none⟩] true) Q ⟨#[.pointer (some ⟨D,0,none⟩),p1,w0,w1,w2,w3,w4,w5,w6,w7,w8,p11],[]⟩ W:=by
 refine ZL (by kernel_rfl) 9 (fun t:Nat→Value=>#[.pointer (some ⟨D,0,none⟩),p1,t 0,t 1,t 2,t 3,t 4,t 5,t 6,t 7,t 8,p11]) (fun i=>match i with|0=>w0|1=>w1|2=>w2|3=>w3|4=>w4|5=>w5|6=>w6|7=>w7|_=>w8) (wisReg0G D B qh m ma mc r p R W) (fun a X=>∃ (t:Nat→Value) (v3:Value),a=⟨#[.pointer (some ⟨D,0,none⟩),p1,t 0,t 1,t 2,t 3,t 4,t 5,t 6,t 7,t 8,v3],[]⟩∧R X) (by kernel_rfl) (by kernel_rfl) (by kernel_rfl) ?_ rfl ?_ ?_ ?_
 ·exact fun _ _ _ _ _ h _=>h
 ·intro i hi t X K hb hg hK
  rcases (show i=0∨i=1∨i=2∨i=3∨i=4∨i=5∨i=6∨i=7∨i=8 by omega) with rfl|rfl|rfl|rfl|rfl|rfl|rfl|rfl|rfl
  ·exact sg
  ·have ea:t 0=.pointer (some ⟨D,0,none⟩):=hg 0 (Wt rfl)
   exact sg
  ·have ea:t 1=.pointer (some ⟨D,0,none⟩):=hg 1 (Wt rfl)
   exact sg
  ·exact apGn2
  ·exact sg
  ·have ea:t 4=.pointer (some ⟨D,0,none⟩):=hg 4 (Wt rfl)
   exact sg
  ·have ea:t 5=.pointer (some ⟨D,0,none⟩):=hg 5 (Wt rfl)
   exact sg
  ·have ea:t 6=.pointer (some ⟨D,1,none⟩):=hg 6 (Wt rfl)
   exact sg
  ·have ea:t 7=.pointer (some ⟨D,7,none⟩):=hg 7 (Wt rfl)
   have f1:=(hb.cell (p:=⟨D,7,none⟩) hD).trans cD7
   exact sg
 ·intro t X K hb hg hK
  have e3:t 3=.pointer (some ⟨B,0,none⟩):=hg 3 (by omega)
  have e8:t 8=.string m.text:=hg 8 (by omega)
  refine Zi rfl rfl ?_
  have HK:=hid hK
  have HC:=hid (hQc X hb)
  clear hK hg hQc
  simp only [e3,e8]
  go_simp
  go_at_call 72
  refine HC.out.mono ?_
  rintro e Y ⟨rfl,hR⟩
  have h:=HK.out _ Y ⟨t,.tuple #[],rfl,hR⟩
  simpa [e3,e8] using h
 ·rintro a X ⟨t,v3,rfl,hp⟩
  exact hQ t v3 X hp
def choReg2G (D B _qh:Nat) (m:Ms) (_ma:Option Addr) (_mc:Nat) (_r:Rc) (_p:RcP) (_R:World→Prop) (_W:World) (i:Nat) (v:Value) (_X:World):Prop:=
 match i with
 | 0=>v=.pointer (some ⟨B,6,none⟩)
 | 1=>v=.pointer (some ⟨D,0,none⟩)
 | 2=>v=.pointer (some ⟨D,0,none⟩)
 | 3=>v=.pointer (some ⟨D,1,none⟩)
 | 4=>v=.pointer (some ⟨D,5,none⟩)
 | 5=>v=.int .i64 m.ix
 | 6=>v=.pointer (some ⟨D,0,none⟩)
 | 7=>v=.pointer (some ⟨D,0,none⟩)
 | 8=>v=.pointer (some ⟨D,1,none⟩)
 | 9=>v=.pointer (some ⟨D,4,none⟩)
 | 10=>v=.int .i64 m.bal
 | 11=>v=.pointer (some ⟨D,0,none⟩)
 | 12=>v=.pointer (some ⟨D,0,none⟩)
 | 13=>v=.pointer (some ⟨D,1,none⟩)
 | 14=>v=.pointer (some ⟨D,7,none⟩)
 | 15=>v=.string m.text
 | 16=>v=.agg #[.int .i64 m.bal,.string m.text]
 | _=>True
set_option maxRecDepth 100000 in
theorem choReg2 (p1 p3 p4 p5 p6 p7 p8 p9 p10 p11 p12 p13 p14 p15 p16 p17 p18 p19 p20 p21 p22 p23 p24 p25 p26 p27 p28 p29 p30 p31 p49 p50 p51 p52 p53 p54 p55 p56 p57:Value) (w0 w1 w2 w3 w4 w5 w6 w7 w8 w9 w10 w11 w12 w13 w14 w15 w16:Value) (D B qh:Nat) (m:Ms) (ma:Option Addr) (mc:Nat) (r:Rc) (p:RcP) (R:World→Prop) (W:World) (hD:D<W.1.size) (_hB:B<W.1.size) (cD4:W.cell? ⟨D,4,none⟩=some (.int .i64 m.bal)) (cD5:W.cell? ⟨D,5,none⟩=some (.int .i64 m.ix)) (cD7:W.cell? ⟨D,7,none⟩=some (.string m.text)) (hQc:∀ X,Below W.1.size W X→Calls Tryz.prog 154 #[.pointer (some ⟨B,6,none⟩),.int .i64 m.ix,.agg #[.int .i64 m.bal,.string m.text]] X fun e w'=>e=.returned (.tuple #[])∧R w') (Q:Exit→Act→World→Prop) (hQ:∀ (t:Nat→Value) (v3:Value) X,R X→Q .normal ⟨#[.pointer (some ⟨D,0,none⟩),p1,.pointer (some ⟨B,6,none⟩),p3,p4,p5,p6,p7,p8,p9,p10,p11,p12,p13,p14,p15,p16,p17,p18,p19,p20,p21,p22,p23,p24,p25,p26,p27,p28,p29,p30,p31,t 0,t 1,t 2,t 3,t 4,t 5,t 6,t 7,t 8,t 9,t 10,t 11,t 12,t 13,t 14,t 15,t 16,v3,p50,p51,p52,p53,p54,p55,p56,p57],[]⟩ X) :
  Code.wp Tryz.prog (Code.region 2 #[⟨some 32,.move (.tmp 2),155, "l14_rec_take.go:126",#[],none⟩,⟨some 33,.move (.tmp 0),151, "l14_rec_take.go:126",#[],none⟩,⟨some 34,.nilCheck (.tmp 33),0, "l14_rec_take.go:126",#[⟨1,.data⟩],none⟩,⟨some 35,.fieldAddr 134 (.tmp 34) 1,0, "l14_rec_take.go:126",#[⟨2,.data⟩],none⟩,⟨some 36,.fieldAddr 52 (.tmp 35) 4,0, "l14_rec_take.go:126",#[⟨3,.data⟩],none⟩,⟨some 37,.load 3 (.tmp 36),3, "l14_rec_take.go:126",#[⟨4,.data⟩],none⟩,⟨some 38,.move (.tmp 0),151, "l14_rec_take.go:126",#[],none⟩,⟨some 39,.nilCheck (.tmp 38),0, "l14_rec_take.go:126",#[⟨6,.data⟩],none⟩,⟨some 40,.fieldAddr 134 (.tmp 39) 1,0, "l14_rec_take.go:126",#[⟨7,.data⟩],none⟩,⟨some 41,.fieldAddr 52 (.tmp 40) 3,0, "l14_rec_take.go:126",#[⟨8,.data⟩],none⟩,⟨some 42,.load 3 (.tmp 41),3, "l14_rec_take.go:126",#[⟨9,.data⟩],none⟩,⟨some 43,.move (.tmp 0),151, "l14_rec_take.go:126",#[],none⟩,⟨some 44,.nilCheck (.tmp 43),0, "l14_rec_take.go:126",#[⟨11,.data⟩],none⟩,⟨some 45,.fieldAddr 134 (.tmp 44) 1,0, "l14_rec_take.go:126",#[⟨12,.data⟩],none⟩,⟨some 46,.fieldAddr 52 (.tmp 45) 6,0, "l14_rec_take.go:126",#[⟨13,.data⟩],none⟩,⟨some 47,.load 9 (.tmp 46),9, "l14_rec_take.go:126",#[⟨14,.data⟩],none⟩,⟨some 48,.build 109 #[(0,.tmp 42),(1,.tmp 47)],109, "l14_rec_take.go:126",#[⟨10,.data⟩,⟨15,.data⟩],none⟩,⟨some 49,.call ⟨.value (.func 154),#[.tmp 32,.tmp 37,.tmp 48],#[155,3,109]⟩,0, "l14_rec_take.go:126",#[⟨0,.data⟩,⟨5,.data⟩,⟨16,.data⟩],none⟩] true) Q ⟨#[.pointer (some ⟨D,0,none⟩),p1,.pointer (some ⟨B,6,none⟩),p3,p4,p5,p6,p7,p8,p9,p10,p11,p12,p13,p14,p15,p16,p17,p18,p19,p20,p21,p22,p23,p24,p25,p26,p27,p28,p29,p30,p31,w0,w1,w2,w3,w4,w5,w6,w7,w8,w9,w10,w11,w12,w13,w14,w15,w16,p49,p50,p51,p52,p53,p54,p55,p56,p57],[]⟩ W:=by
 refine ZL (by kernel_rfl) 17 (fun t:Nat→Value=>#[.pointer (some ⟨D,0,none⟩),p1,.pointer (some ⟨B,6,none⟩),p3,p4,p5,p6,p7,p8,p9,p10,p11,p12,p13,p14,p15,p16,p17,p18,p19,p20,p21,p22,p23,p24,p25,p26,p27,p28,p29,p30,p31,t 0,t 1,t 2,t 3,t 4,t 5,t 6,t 7,t 8,t 9,t 10,t 11,t 12,t 13,t 14,t 15,t 16,p49,p50,p51,p52,p53,p54,p55,p56,p57]) (fun i=>match i with|0=>w0|1=>w1|2=>w2|3=>w3|4=>w4|5=>w5|6=>w6|7=>w7|8=>w8|9=>w9|10=>w10|11=>w11|12=>w12|13=>w13|14=>w14|15=>w15|_=>w16) (choReg2G D B qh m ma mc r p R W) (fun a X=>∃ (t:Nat→Value) (v3:Value),a=⟨#[.pointer (some ⟨D,0,none⟩),p1,.pointer (some ⟨B,6,none⟩),p3,p4,p5,p6,p7,p8,p9,p10,p11,p12,p13,p14,p15,p16,p17,p18,p19,p20,p21,p22,p23,p24,p25,p26,p27,p28,p29,p30,p31,t 0,t 1,t 2,t 3,t 4,t 5,t 6,t 7,t 8,t 9,t 10,t 11,t 12,t 13,t 14,t 15,t 16,v3,p50,p51,p52,p53,p54,p55,p56,p57],[]⟩∧R X) (by kernel_rfl) (by kernel_rfl) (by kernel_rfl) ?_ rfl ?_ ?_ ?_
 ·exact fun _ _ _ _ _ h _=>h
 ·intro i hi t X K hb hg hK
  rcases (show i=0∨i=1∨i=2∨i=3∨i=4∨i=5∨i=6∨i=7∨i=8∨i=9∨i=10∨i=11∨i=12∨i=13∨i=14∨i=15∨i=16 by omega) with rfl|rfl|rfl|rfl|rfl|rfl|rfl|rfl|rfl|rfl|rfl|rfl|rfl|rfl|rfl|rfl|rfl
  ·exact sg
  ·exact sg
  ·have ea:t 1=.pointer (some ⟨D,0,none⟩):=hg 1 (Wt rfl)
   exact sg
  ·have ea:t 2=.pointer (some ⟨D,0,none⟩):=hg 2 (Wt rfl)
   exact sg
  ·have ea:t 3=.pointer (some ⟨D,1,none⟩):=hg 3 (Wt rfl)
   exact sg
  ·have ea:t 4=.pointer (some ⟨D,5,none⟩):=hg 4 (Wt rfl)
   have f1:=(hb.cell (p:=⟨D,5,none⟩) hD).trans cD5
   exact sg
  ·exact sg
  ·have ea:t 6=.pointer (some ⟨D,0,none⟩):=hg 6 (Wt rfl)
   exact sg
  ·have ea:t 7=.pointer (some ⟨D,0,none⟩):=hg 7 (Wt rfl)
   exact sg
  ·have ea:t 8=.pointer (some ⟨D,1,none⟩):=hg 8 (Wt rfl)
   exact sg
  ·have ea:t 9=.pointer (some ⟨D,4,none⟩):=hg 9 (Wt rfl)
   have f1:=(hb.cell (p:=⟨D,4,none⟩) hD).trans cD4
   exact sg
  ·exact sg
  ·have ea:t 11=.pointer (some ⟨D,0,none⟩):=hg 11 (Wt rfl)
   exact sg
  ·have ea:t 12=.pointer (some ⟨D,0,none⟩):=hg 12 (Wt rfl)
   exact sg
  ·have ea:t 13=.pointer (some ⟨D,1,none⟩):=hg 13 (Wt rfl)
   exact sg
  ·have ea:t 14=.pointer (some ⟨D,7,none⟩):=hg 14 (Wt rfl)
   have f1:=(hb.cell (p:=⟨D,7,none⟩) hD).trans cD7
   exact sg
  ·have ea:t 10=.int .i64 m.bal:=hg 10 (Wt rfl)
   have eb:t 15=.string m.text:=hg 15 (Wt rfl)
   exact sg
 ·intro t X K hb hg hK
  have e0:t 0=.pointer (some ⟨B,6,none⟩):=hg 0 (by omega)
  have e5:t 5=.int .i64 m.ix:=hg 5 (by omega)
  have e16:t 16=.agg #[.int .i64 m.bal,.string m.text]:=hg 16 (by omega)
  refine Zi rfl rfl ?_
  have HK:=hid hK
  have HC:=hid (hQc X hb)
  clear hK hg hQc
  simp only [e0,e5,e16]
  go_simp
  go_at_call 154
  refine HC.out.mono ?_
  rintro e Y ⟨rfl,hR⟩
  have h:=HK.out _ Y ⟨t,.tuple #[],rfl,hR⟩
  simpa [e0,e5,e16] using h
 ·rintro a X ⟨t,v3,rfl,hp⟩
  exact hQ t v3 X hp
def accReg3G (D B _qh:Nat) (m:Ms) (_ma:Option Addr) (_mc:Nat) (_r:Rc) (_p:RcP) (_R:World→Prop) (_W:World) (i:Nat) (v:Value) (_X:World):Prop:=
 match i with
 | 0=>v=.pointer (some ⟨D,0,none⟩)
 | 1=>v=.pointer (some ⟨D,0,none⟩)
 | 2=>v=.pointer (some ⟨D,0,none⟩)
 | 3=>v=.pointer (some ⟨B,0,none⟩)
 | 4=>v=.pointer (some ⟨D,0,none⟩)
 | 5=>v=.pointer (some ⟨D,0,none⟩)
 | 6=>v=.pointer (some ⟨D,1,none⟩)
 | 7=>v=.pointer (some ⟨D,4,none⟩)
 | 8=>v=.int .i64 m.bal
 | _=>True
set_option maxRecDepth 100000 in
theorem accReg3 (p1 p2 p3 p4 p5 p6 p7 p8 p9 p10 p11 p12 p13 p14 p15 p16 p17 p18 p19 p20 p21 p22 p23 p24 p25 p26 p27 p28 p38 p39 p40 p41 p42 p43 p44 p45 p46 p47 p48 p49 p50 p51 p52 p53 p54 p55 p56 p57 p58 p59 p60 p61 p62 p63 p64 p65 p66 p67 p68 p69 p70 p71 p72 p73 p74 p75 p76 p77 p78 p79 p80 p81 p82 p83 p84 p85 p86 p87 p88 p89 p90 p91 p92 p93 p94 p95 p96:Value) (w0 w1 w2 w3 w4 w5 w6 w7 w8:Value) (D B qh:Nat) (m:Ms) (ma:Option Addr) (mc:Nat) (r:Rc) (p:RcP) (R:World→Prop) (W:World) (hD:D<W.1.size) (_hB:B<W.1.size) (cD0:W.cell? ⟨D,0,none⟩=some (.pointer (some ⟨B,0,none⟩))) (cD4:W.cell? ⟨D,4,none⟩=some (.int .i64 m.bal)) (hQc:∀ X,Below W.1.size W X→Calls Tryz.prog 152 #[.pointer (some ⟨B,0,none⟩),.int .i64 m.bal] X fun e w'=>e=.returned (.tuple #[])∧R w') (Q:Exit→Act→World→Prop) (hQ:∀ (t:Nat→Value) (v3:Value) X,R X→Q .normal ⟨#[.pointer (some ⟨D,0,none⟩),p1,p2,p3,p4,p5,p6,p7,p8,p9,p10,p11,p12,p13,p14,p15,p16,p17,p18,p19,p20,p21,p22,p23,p24,p25,p26,p27,p28,t 0,t 1,t 2,t 3,t 4,t 5,t 6,t 7,t 8,v3,p39,p40,p41,p42,p43,p44,p45,p46,p47,p48,p49,p50,p51,p52,p53,p54,p55,p56,p57,p58,p59,p60,p61,p62,p63,p64,p65,p66,p67,p68,p69,p70,p71,p72,p73,p74,p75,p76,p77,p78,p79,p80,p81,p82,p83,p84,p85,p86,p87,p88,p89,p90,p91,p92,p93,p94,p95,p96],[]⟩ X) :
  Code.wp Tryz.prog (Code.region 3 #[⟨some 29,.move (.tmp 0),151, "l14_rec_take.go:89",#[],none⟩,⟨some 30,.nilCheck (.tmp 29),0, "l14_rec_take.go:89",#[⟨0,.data⟩],none⟩,⟨some 31,.fieldAddr 134 (.tmp 30) 0,0, "l14_rec_take.go:89",#[⟨1,.data⟩],none⟩,⟨some 32,.load 81 (.tmp 31),81, "l14_rec_take.go:89",#[⟨2,.data⟩],none⟩,⟨some 33,.move (.tmp 0),151, "l14_rec_take.go:89",#[],none⟩,⟨some 34,.nilCheck (.tmp 33),0, "l14_rec_take.go:89",#[⟨4,.data⟩],none⟩,⟨some 35,.fieldAddr 134 (.tmp 34) 1,0, "l14_rec_take.go:89",#[⟨5,.data⟩],none⟩,⟨some 36,.fieldAddr 52 (.tmp 35) 3,0, "l14_rec_take.go:89",#[⟨6,.data⟩],none⟩,⟨some 37,.load 3 (.tmp 36),3, "l14_rec_take.go:89",#[⟨7,.data⟩],none⟩,⟨some 38,.call ⟨.value (.func 152),#[.tmp 32,.tmp 37],#[81,3]⟩,0, "l14_rec_take.go:89",#[⟨3,.data⟩,⟨8,.data⟩],none⟩] true) Q ⟨#[.pointer (some ⟨D,0,none⟩),p1,p2,p3,p4,p5,p6,p7,p8,p9,p10,p11,p12,p13,p14,p15,p16,p17,p18,p19,p20,p21,p22,p23,p24,p25,p26,p27,p28,w0,w1,w2,w3,w4,w5,w6,w7,w8,p38,p39,p40,p41,p42,p43,p44,p45,p46,p47,p48,p49,p50,p51,p52,p53,p54,p55,p56,p57,p58,p59,p60,p61,p62,p63,p64,p65,p66,p67,p68,p69,p70,p71,p72,p73,p74,p75,p76,p77,p78,p79,p80,p81,p82,p83,p84,p85,p86,p87,p88,p89,p90,p91,p92,p93,p94,p95,p96],[]⟩ W:=by
 refine ZL (by kernel_rfl) 9 (fun t:Nat→Value=>#[.pointer (some ⟨D,0,none⟩),p1,p2,p3,p4,p5,p6,p7,p8,p9,p10,p11,p12,p13,p14,p15,p16,p17,p18,p19,p20,p21,p22,p23,p24,p25,p26,p27,p28,t 0,t 1,t 2,t 3,t 4,t 5,t 6,t 7,t 8,p38,p39,p40,p41,p42,p43,p44,p45,p46,p47,p48,p49,p50,p51,p52,p53,p54,p55,p56,p57,p58,p59,p60,p61,p62,p63,p64,p65,p66,p67,p68,p69,p70,p71,p72,p73,p74,p75,p76,p77,p78,p79,p80,p81,p82,p83,p84,p85,p86,p87,p88,p89,p90,p91,p92,p93,p94,p95,p96]) (fun i=>match i with|0=>w0|1=>w1|2=>w2|3=>w3|4=>w4|5=>w5|6=>w6|7=>w7|_=>w8) (accReg3G D B qh m ma mc r p R W) (fun a X=>∃ (t:Nat→Value) (v3:Value),a=⟨#[.pointer (some ⟨D,0,none⟩),p1,p2,p3,p4,p5,p6,p7,p8,p9,p10,p11,p12,p13,p14,p15,p16,p17,p18,p19,p20,p21,p22,p23,p24,p25,p26,p27,p28,t 0,t 1,t 2,t 3,t 4,t 5,t 6,t 7,t 8,v3,p39,p40,p41,p42,p43,p44,p45,p46,p47,p48,p49,p50,p51,p52,p53,p54,p55,p56,p57,p58,p59,p60,p61,p62,p63,p64,p65,p66,p67,p68,p69,p70,p71,p72,p73,p74,p75,p76,p77,p78,p79,p80,p81,p82,p83,p84,p85,p86,p87,p88,p89,p90,p91,p92,p93,p94,p95,p96],[]⟩∧R X) (by kernel_rfl) (by kernel_rfl) (by kernel_rfl) ?_ rfl ?_ ?_ ?_
 ·exact fun _ _ _ _ _ h _=>h
 ·exact apGn1
 ·exact apGn3
 ·rintro a X ⟨t,v3,rfl,hp⟩
  exact hQ t v3 X hp
def accReg5G (D B _qh:Nat) (m:Ms) (_ma:Option Addr) (_mc:Nat) (_r:Rc) (_p:RcP) (_R:World→Prop) (_W:World) (i:Nat) (v:Value) (_X:World):Prop:=
 match i with
 | 0=>v=.pointer (some ⟨D,0,none⟩)
 | 1=>v=.pointer (some ⟨D,0,none⟩)
 | 2=>v=.pointer (some ⟨D,0,none⟩)
 | 3=>v=.pointer (some ⟨B,0,none⟩)
 | 4=>v=.pointer (some ⟨B,0,none⟩)
 | 5=>v=.pointer (some ⟨B,6,none⟩)
 | 6=>v=.pointer (some ⟨D,0,none⟩)
 | 7=>v=.pointer (some ⟨D,0,none⟩)
 | 8=>v=.pointer (some ⟨D,1,none⟩)
 | 9=>v=.pointer (some ⟨D,5,none⟩)
 | 10=>v=.int .i64 m.ix
 | 11=>v=.pointer (some ⟨D,0,none⟩)
 | 12=>v=.pointer (some ⟨D,0,none⟩)
 | 13=>v=.pointer (some ⟨D,1,none⟩)
 | 14=>v=.pointer (some ⟨D,4,none⟩)
 | 15=>v=.int .i64 m.bal
 | 16=>v=.pointer (some ⟨D,0,none⟩)
 | 17=>v=.pointer (some ⟨D,0,none⟩)
 | 18=>v=.pointer (some ⟨D,1,none⟩)
 | 19=>v=.pointer (some ⟨D,7,none⟩)
 | 20=>v=.string m.text
 | 21=>v=.agg #[.int .i64 m.bal,.string m.text]
 | _=>True
set_option maxRecDepth 100000 in
theorem accReg5 (p1 p2 p3 p4 p5 p6 p7 p8 p9 p10 p11 p12 p13 p14 p15 p16 p17 p18 p19 p20 p21 p22 p23 p24 p25 p26 p27 p28 p29 p30 p31 p32 p33 p34 p35 p36 p37 p38 p39 p40 p41 p42 p43 p44 p45 p46 p47 p48 p49 p50 p51 p52 p75 p76 p77 p78 p79 p80 p81 p82 p83 p84 p85 p86 p87 p88 p89 p90 p91 p92 p93 p94 p95 p96:Value) (w0 w1 w2 w3 w4 w5 w6 w7 w8 w9 w10 w11 w12 w13 w14 w15 w16 w17 w18 w19 w20 w21:Value) (D B qh:Nat) (m:Ms) (ma:Option Addr) (mc:Nat) (r:Rc) (p:RcP) (R:World→Prop) (W:World) (hD:D<W.1.size) (_hB:B<W.1.size) (cD0:W.cell? ⟨D,0,none⟩=some (.pointer (some ⟨B,0,none⟩))) (cD4:W.cell? ⟨D,4,none⟩=some (.int .i64 m.bal)) (cD5:W.cell? ⟨D,5,none⟩=some (.int .i64 m.ix)) (cD7:W.cell? ⟨D,7,none⟩=some (.string m.text)) (hQc:∀ X,Below W.1.size W X→Calls Tryz.prog 154 #[.pointer (some ⟨B,6,none⟩),.int .i64 m.ix,.agg #[.int .i64 m.bal,.string m.text]] X fun e w'=>e=.returned (.tuple #[])∧R w') (Q:Exit→Act→World→Prop) (hQ:∀ (t:Nat→Value) (v3:Value) X,R X→Q .normal ⟨#[.pointer (some ⟨D,0,none⟩),p1,p2,p3,p4,p5,p6,p7,p8,p9,p10,p11,p12,p13,p14,p15,p16,p17,p18,p19,p20,p21,p22,p23,p24,p25,p26,p27,p28,p29,p30,p31,p32,p33,p34,p35,p36,p37,p38,p39,p40,p41,p42,p43,p44,p45,p46,p47,p48,p49,p50,p51,p52,t 0,t 1,t 2,t 3,t 4,t 5,t 6,t 7,t 8,t 9,t 10,t 11,t 12,t 13,t 14,t 15,t 16,t 17,t 18,t 19,t 20,t 21,v3,p76,p77,p78,p79,p80,p81,p82,p83,p84,p85,p86,p87,p88,p89,p90,p91,p92,p93,p94,p95,p96],[]⟩ X) :
  Code.wp Tryz.prog (Code.region 5 #[⟨some 53,.move (.tmp 0),151, "l14_rec_take.go:91",#[],none⟩,⟨some 54,.nilCheck (.tmp 53),0, "l14_rec_take.go:91",#[⟨0,.data⟩],none⟩,⟨some 55,.fieldAddr 134 (.tmp 54) 0,0, "l14_rec_take.go:91",#[⟨1,.data⟩],none⟩,⟨some 56,.load 81 (.tmp 55),81, "l14_rec_take.go:91",#[⟨2,.data⟩],none⟩,⟨some 57,.nilCheck (.tmp 56),0, "l14_rec_take.go:91",#[⟨3,.data⟩],none⟩,⟨some 58,.fieldAddr 38 (.tmp 57) 4,0, "l14_rec_take.go:91",#[⟨4,.data⟩],none⟩,⟨some 59,.move (.tmp 0),151, "l14_rec_take.go:91",#[],none⟩,⟨some 60,.nilCheck (.tmp 59),0, "l14_rec_take.go:91",#[⟨6,.data⟩],none⟩,⟨some 61,.fieldAddr 134 (.tmp 60) 1,0, "l14_rec_take.go:91",#[⟨7,.data⟩],none⟩,⟨some 62,.fieldAddr 52 (.tmp 61) 4,0, "l14_rec_take.go:91",#[⟨8,.data⟩],none⟩,⟨some 63,.load 3 (.tmp 62),3, "l14_rec_take.go:91",#[⟨9,.data⟩],none⟩,⟨some 64,.move (.tmp 0),151, "l14_rec_take.go:91",#[],none⟩,⟨some 65,.nilCheck (.tmp 64),0, "l14_rec_take.go:91",#[⟨11,.data⟩],none⟩,⟨some 66,.fieldAddr 134 (.tmp 65) 1,0, "l14_rec_take.go:91",#[⟨12,.data⟩],none⟩,⟨some 67,.fieldAddr 52 (.tmp 66) 3,0, "l14_rec_take.go:91",#[⟨13,.data⟩],none⟩,⟨some 68,.load 3 (.tmp 67),3, "l14_rec_take.go:91",#[⟨14,.data⟩],none⟩,⟨some 69,.move (.tmp 0),151, "l14_rec_take.go:91",#[],none⟩,⟨some 70,.nilCheck (.tmp 69),0, "l14_rec_take.go:91",#[⟨16,.data⟩],none⟩,⟨some 71,.fieldAddr 134 (.tmp 70) 1,0, "l14_rec_take.go:91",#[⟨17,.data⟩],none⟩,⟨some 72,.fieldAddr 52 (.tmp 71) 6,0, "l14_rec_take.go:91",#[⟨18,.data⟩],none⟩,⟨some 73,.load 9 (.tmp 72),9, "l14_rec_take.go:91",#[⟨19,.data⟩],none⟩,⟨some 74,.build 109 #[(0,.tmp 68),(1,.tmp 73)],109, "l14_rec_take.go:91",#[⟨15,.data⟩,⟨20,.data⟩],none⟩,⟨some 75,.call ⟨.value (.func 154),#[.tmp 58,.tmp 63,.tmp 74],#[155,3,109]⟩,0, "l14_rec_take.go:91",#[⟨5,.data⟩,⟨10,.data⟩,⟨21,.data⟩],none⟩] true) Q ⟨#[.pointer (some ⟨D,0,none⟩),p1,p2,p3,p4,p5,p6,p7,p8,p9,p10,p11,p12,p13,p14,p15,p16,p17,p18,p19,p20,p21,p22,p23,p24,p25,p26,p27,p28,p29,p30,p31,p32,p33,p34,p35,p36,p37,p38,p39,p40,p41,p42,p43,p44,p45,p46,p47,p48,p49,p50,p51,p52,w0,w1,w2,w3,w4,w5,w6,w7,w8,w9,w10,w11,w12,w13,w14,w15,w16,w17,w18,w19,w20,w21,p75,p76,p77,p78,p79,p80,p81,p82,p83,p84,p85,p86,p87,p88,p89,p90,p91,p92,p93,p94,p95,p96],[]⟩ W:=by
 refine ZL (by kernel_rfl) 22 (fun t:Nat→Value=>#[.pointer (some ⟨D,0,none⟩),p1,p2,p3,p4,p5,p6,p7,p8,p9,p10,p11,p12,p13,p14,p15,p16,p17,p18,p19,p20,p21,p22,p23,p24,p25,p26,p27,p28,p29,p30,p31,p32,p33,p34,p35,p36,p37,p38,p39,p40,p41,p42,p43,p44,p45,p46,p47,p48,p49,p50,p51,p52,t 0,t 1,t 2,t 3,t 4,t 5,t 6,t 7,t 8,t 9,t 10,t 11,t 12,t 13,t 14,t 15,t 16,t 17,t 18,t 19,t 20,t 21,p75,p76,p77,p78,p79,p80,p81,p82,p83,p84,p85,p86,p87,p88,p89,p90,p91,p92,p93,p94,p95,p96]) (fun i=>match i with|0=>w0|1=>w1|2=>w2|3=>w3|4=>w4|5=>w5|6=>w6|7=>w7|8=>w8|9=>w9|10=>w10|11=>w11|12=>w12|13=>w13|14=>w14|15=>w15|16=>w16|17=>w17|18=>w18|19=>w19|20=>w20|_=>w21) (accReg5G D B qh m ma mc r p R W) (fun a X=>∃ (t:Nat→Value) (v3:Value),a=⟨#[.pointer (some ⟨D,0,none⟩),p1,p2,p3,p4,p5,p6,p7,p8,p9,p10,p11,p12,p13,p14,p15,p16,p17,p18,p19,p20,p21,p22,p23,p24,p25,p26,p27,p28,p29,p30,p31,p32,p33,p34,p35,p36,p37,p38,p39,p40,p41,p42,p43,p44,p45,p46,p47,p48,p49,p50,p51,p52,t 0,t 1,t 2,t 3,t 4,t 5,t 6,t 7,t 8,t 9,t 10,t 11,t 12,t 13,t 14,t 15,t 16,t 17,t 18,t 19,t 20,t 21,v3,p76,p77,p78,p79,p80,p81,p82,p83,p84,p85,p86,p87,p88,p89,p90,p91,p92,p93,p94,p95,p96],[]⟩∧R X) (by kernel_rfl) (by kernel_rfl) (by kernel_rfl) ?_ rfl ?_ ?_ ?_
 ·exact fun _ _ _ _ _ h _=>h
 ·intro i hi t X K hb hg hK
  rcases (show i=0∨i=1∨i=2∨i=3∨i=4∨i=5∨i=6∨i=7∨i=8∨i=9∨i=10∨i=11∨i=12∨i=13∨i=14∨i=15∨i=16∨i=17∨i=18∨i=19∨i=20∨i=21 by omega) with rfl|rfl|rfl|rfl|rfl|rfl|rfl|rfl|rfl|rfl|rfl|rfl|rfl|rfl|rfl|rfl|rfl|rfl|rfl|rfl|rfl|rfl
  ·exact sg
  ·have ea:t 0=.pointer (some ⟨D,0,none⟩):=hg 0 (Wt rfl)
   exact sg
  ·have ea:t 1=.pointer (some ⟨D,0,none⟩):=hg 1 (Wt rfl)
   exact sg
  ·exact apGn2
  ·have ea:t 3=.pointer (some ⟨B,0,none⟩):=hg 3 (Wt rfl)
   exact sg
  ·have ea:t 4=.pointer (some ⟨B,0,none⟩):=hg 4 (Wt rfl)
   exact sg
  ·exact sg
  ·have ea:t 6=.pointer (some ⟨D,0,none⟩):=hg 6 (Wt rfl)
   exact sg
  ·have ea:t 7=.pointer (some ⟨D,0,none⟩):=hg 7 (Wt rfl)
   exact sg
  ·have ea:t 8=.pointer (some ⟨D,1,none⟩):=hg 8 (Wt rfl)
   exact sg
  ·have ea:t 9=.pointer (some ⟨D,5,none⟩):=hg 9 (Wt rfl)
   have f1:=(hb.cell (p:=⟨D,5,none⟩) hD).trans cD5
   exact sg
  ·exact sg
  ·have ea:t 11=.pointer (some ⟨D,0,none⟩):=hg 11 (Wt rfl)
   exact sg
  ·have ea:t 12=.pointer (some ⟨D,0,none⟩):=hg 12 (Wt rfl)
   exact sg
  ·have ea:t 13=.pointer (some ⟨D,1,none⟩):=hg 13 (Wt rfl)
   exact sg
  ·have ea:t 14=.pointer (some ⟨D,4,none⟩):=hg 14 (Wt rfl)
   have f1:=(hb.cell (p:=⟨D,4,none⟩) hD).trans cD4
   exact sg
  ·exact sg
  ·have ea:t 16=.pointer (some ⟨D,0,none⟩):=hg 16 (Wt rfl)
   exact sg
  ·have ea:t 17=.pointer (some ⟨D,0,none⟩):=hg 17 (Wt rfl)
   exact sg
  ·have ea:t 18=.pointer (some ⟨D,1,none⟩):=hg 18 (Wt rfl)
   exact sg
  ·have ea:t 19=.pointer (some ⟨D,7,none⟩):=hg 19 (Wt rfl)
   have f1:=(hb.cell (p:=⟨D,7,none⟩) hD).trans cD7
   exact sg
  ·have ea:t 15=.int .i64 m.bal:=hg 15 (Wt rfl)
   have eb:t 20=.string m.text:=hg 20 (Wt rfl)
   exact sg
 ·intro t X K hb hg hK
  have e5:t 5=.pointer (some ⟨B,6,none⟩):=hg 5 (by omega)
  have e10:t 10=.int .i64 m.ix:=hg 10 (by omega)
  have e21:t 21=.agg #[.int .i64 m.bal,.string m.text]:=hg 21 (by omega)
  refine Zi rfl rfl ?_
  have HK:=hid hK
  have HC:=hid (hQc X hb)
  clear hK hg hQc
  simp only [e5,e10,e21]
  go_simp
  go_at_call 154
  refine HC.out.mono ?_
  rintro e Y ⟨rfl,hR⟩
  have h:=HK.out _ Y ⟨t,.tuple #[],rfl,hR⟩
  simpa [e5,e10,e21] using h
 ·rintro a X ⟨t,v3,rfl,hp⟩
  exact hQ t v3 X hp
def accReg6G (D _B qh:Nat) (m:Ms) (_ma:Option Addr) (_mc:Nat) (_r:Rc) (_p:RcP) (_R:World→Prop) (_W:World) (i:Nat) (v:Value) (_X:World):Prop:=
 match i with
 | 0=>v=.pointer (some ⟨D,0,none⟩)
 | 1=>v=.pointer (some ⟨D,0,none⟩)
 | 2=>v=.pointer (some ⟨D,9,none⟩)
 | 3=>v=.func (.func 150) #[] #[.pointer (some ⟨qh,0,none⟩)]
 | 4=>v=.pointer (some ⟨D,0,none⟩)
 | 5=>v=.pointer (some ⟨D,0,none⟩)
 | 6=>v=.pointer (some ⟨D,1,none⟩)
 | 7=>v=.pointer (some ⟨D,2,none⟩)
 | 8=>v=.int .i64 m.from_
 | 9=>v=.pointer (some ⟨D,0,none⟩)
 | 10=>v=.pointer (some ⟨D,0,none⟩)
 | 11=>v=.pointer (some ⟨D,1,none⟩)
 | 12=>v=.pointer (some ⟨D,4,none⟩)
 | 13=>v=.int .i64 m.bal
 | 14=>v=.pointer (some ⟨D,0,none⟩)
 | 15=>v=.pointer (some ⟨D,0,none⟩)
 | 16=>v=.pointer (some ⟨D,1,none⟩)
 | 17=>v=.pointer (some ⟨D,5,none⟩)
 | 18=>v=.int .i64 m.ix
 | 19=>v=.agg #[.int .i64 4,.int .i64 0,.int .i64 m.from_,.int .i64 m.bal,.int .i64 m.ix,.int .i64 0,.string ⟨#[]⟩,.slice none 0 0]
 | _=>True
set_option maxRecDepth 100000 in
theorem accReg6 (p1 p2 p3 p4 p5 p6 p7 p8 p9 p10 p11 p12 p13 p14 p15 p16 p17 p18 p19 p20 p21 p22 p23 p24 p25 p26 p27 p28 p29 p30 p31 p32 p33 p34 p35 p36 p37 p38 p39 p40 p41 p42 p43 p44 p45 p46 p47 p48 p49 p50 p51 p52 p53 p54 p55 p56 p57 p58 p59 p60 p61 p62 p63 p64 p65 p66 p67 p68 p69 p70 p71 p72 p73 p74 p75 p96:Value) (w0 w1 w2 w3 w4 w5 w6 w7 w8 w9 w10 w11 w12 w13 w14 w15 w16 w17 w18 w19:Value) (D B qh:Nat) (m:Ms) (ma:Option Addr) (mc:Nat) (r:Rc) (p:RcP) (R:World→Prop) (W:World) (hD:D<W.1.size) (_hB:B<W.1.size) (cD2:W.cell? ⟨D,2,none⟩=some (.int .i64 m.from_)) (cD4:W.cell? ⟨D,4,none⟩=some (.int .i64 m.bal)) (cD5:W.cell? ⟨D,5,none⟩=some (.int .i64 m.ix)) (cD9:W.cell? ⟨D,9,none⟩=some (.func (.func 150) #[] #[.pointer (some ⟨qh,0,none⟩)])) (hQc:∀ X,Below W.1.size W X→Calls Tryz.prog 150 #[.agg #[.int .i64 4,.int .i64 0,.int .i64 m.from_,.int .i64 m.bal,.int .i64 m.ix,.int .i64 0,.string ⟨#[]⟩,.slice none 0 0],.pointer (some ⟨qh,0,none⟩)] X fun e w'=>e=.returned (.tuple #[])∧R w') (Q:Exit→Act→World→Prop) (hQ:∀ (t:Nat→Value) (v3:Value) X,R X→Q .normal ⟨#[.pointer (some ⟨D,0,none⟩),p1,p2,p3,p4,p5,p6,p7,p8,p9,p10,p11,p12,p13,p14,p15,p16,p17,p18,p19,p20,p21,p22,p23,p24,p25,p26,p27,p28,p29,p30,p31,p32,p33,p34,p35,p36,p37,p38,p39,p40,p41,p42,p43,p44,p45,p46,p47,p48,p49,p50,p51,p52,p53,p54,p55,p56,p57,p58,p59,p60,p61,p62,p63,p64,p65,p66,p67,p68,p69,p70,p71,p72,p73,p74,p75,t 0,t 1,t 2,t 3,t 4,t 5,t 6,t 7,t 8,t 9,t 10,t 11,t 12,t 13,t 14,t 15,t 16,t 17,t 18,t 19,v3],[]⟩ X) :
  Code.wp Tryz.prog (Code.region 6 #[⟨some 76,.move (.tmp 0),151, "l14_rec_take.go:93",#[],none⟩,⟨some 77,.nilCheck (.tmp 76),0, "l14_rec_take.go:93",#[⟨0,.data⟩],none⟩,⟨some 78,.fieldAddr 134 (.tmp 77) 2,0, "l14_rec_take.go:93",#[⟨1,.data⟩],none⟩,⟨some 79,.load 131 (.tmp 78),131, "l14_rec_take.go:93",#[⟨2,.data⟩],none⟩,⟨some 80,.move (.tmp 0),151, "l14_rec_take.go:93",#[],none⟩,⟨some 81,.nilCheck (.tmp 80),0, "l14_rec_take.go:93",#[⟨4,.data⟩],none⟩,⟨some 82,.fieldAddr 134 (.tmp 81) 1,0, "l14_rec_take.go:93",#[⟨5,.data⟩],none⟩,⟨some 83,.fieldAddr 52 (.tmp 82) 1,0, "l14_rec_take.go:93",#[⟨6,.data⟩],none⟩,⟨some 84,.load 3 (.tmp 83),3, "l14_rec_take.go:93",#[⟨7,.data⟩],none⟩,⟨some 85,.move (.tmp 0),151, "l14_rec_take.go:93",#[],none⟩,⟨some 86,.nilCheck (.tmp 85),0, "l14_rec_take.go:93",#[⟨9,.data⟩],none⟩,⟨some 87,.fieldAddr 134 (.tmp 86) 1,0, "l14_rec_take.go:93",#[⟨10,.data⟩],none⟩,⟨some 88,.fieldAddr 52 (.tmp 87) 3,0, "l14_rec_take.go:93",#[⟨11,.data⟩],none⟩,⟨some 89,.load 3 (.tmp 88),3, "l14_rec_take.go:93",#[⟨12,.data⟩],none⟩,⟨some 90,.move (.tmp 0),151, "l14_rec_take.go:93",#[],none⟩,⟨some 91,.nilCheck (.tmp 90),0, "l14_rec_take.go:93",#[⟨14,.data⟩],none⟩,⟨some 92,.fieldAddr 134 (.tmp 91) 1,0, "l14_rec_take.go:93",#[⟨15,.data⟩],none⟩,⟨some 93,.fieldAddr 52 (.tmp 92) 4,0, "l14_rec_take.go:93",#[⟨16,.data⟩],none⟩,⟨some 94,.load 3 (.tmp 93),3, "l14_rec_take.go:93",#[⟨17,.data⟩],none⟩,⟨some 95,.build 52 #[(0,.const (.int .i64 4)),(2,.tmp 84),(3,.tmp 89),(4,.tmp 94)],52, "l14_rec_take.go:93",#[⟨8,.data⟩,⟨13,.data⟩,⟨18,.data⟩],none⟩,⟨some 96,.call ⟨.value (.tmp 79),#[.tmp 95],#[52]⟩,0, "l14_rec_take.go:93",#[⟨3,.data⟩,⟨19,.data⟩],none⟩] true) Q ⟨#[.pointer (some ⟨D,0,none⟩),p1,p2,p3,p4,p5,p6,p7,p8,p9,p10,p11,p12,p13,p14,p15,p16,p17,p18,p19,p20,p21,p22,p23,p24,p25,p26,p27,p28,p29,p30,p31,p32,p33,p34,p35,p36,p37,p38,p39,p40,p41,p42,p43,p44,p45,p46,p47,p48,p49,p50,p51,p52,p53,p54,p55,p56,p57,p58,p59,p60,p61,p62,p63,p64,p65,p66,p67,p68,p69,p70,p71,p72,p73,p74,p75,w0,w1,w2,w3,w4,w5,w6,w7,w8,w9,w10,w11,w12,w13,w14,w15,w16,w17,w18,w19,p96],[]⟩ W:=by
 refine ZL (by kernel_rfl) 20 (fun t:Nat→Value=>#[.pointer (some ⟨D,0,none⟩),p1,p2,p3,p4,p5,p6,p7,p8,p9,p10,p11,p12,p13,p14,p15,p16,p17,p18,p19,p20,p21,p22,p23,p24,p25,p26,p27,p28,p29,p30,p31,p32,p33,p34,p35,p36,p37,p38,p39,p40,p41,p42,p43,p44,p45,p46,p47,p48,p49,p50,p51,p52,p53,p54,p55,p56,p57,p58,p59,p60,p61,p62,p63,p64,p65,p66,p67,p68,p69,p70,p71,p72,p73,p74,p75,t 0,t 1,t 2,t 3,t 4,t 5,t 6,t 7,t 8,t 9,t 10,t 11,t 12,t 13,t 14,t 15,t 16,t 17,t 18,t 19,p96]) (fun i=>match i with|0=>w0|1=>w1|2=>w2|3=>w3|4=>w4|5=>w5|6=>w6|7=>w7|8=>w8|9=>w9|10=>w10|11=>w11|12=>w12|13=>w13|14=>w14|15=>w15|16=>w16|17=>w17|18=>w18|_=>w19) (accReg6G D B qh m ma mc r p R W) (fun a X=>∃ (t:Nat→Value) (v3:Value),a=⟨#[.pointer (some ⟨D,0,none⟩),p1,p2,p3,p4,p5,p6,p7,p8,p9,p10,p11,p12,p13,p14,p15,p16,p17,p18,p19,p20,p21,p22,p23,p24,p25,p26,p27,p28,p29,p30,p31,p32,p33,p34,p35,p36,p37,p38,p39,p40,p41,p42,p43,p44,p45,p46,p47,p48,p49,p50,p51,p52,p53,p54,p55,p56,p57,p58,p59,p60,p61,p62,p63,p64,p65,p66,p67,p68,p69,p70,p71,p72,p73,p74,p75,t 0,t 1,t 2,t 3,t 4,t 5,t 6,t 7,t 8,t 9,t 10,t 11,t 12,t 13,t 14,t 15,t 16,t 17,t 18,t 19,v3],[]⟩∧R X) (by kernel_rfl) (by kernel_rfl) (by kernel_rfl) ?_ rfl ?_ ?_ ?_
 ·exact fun _ _ _ _ _ h _=>h
 ·intro i hi t X K hb hg hK
  rcases (show i=0∨i=1∨i=2∨i=3∨i=4∨i=5∨i=6∨i=7∨i=8∨i=9∨i=10∨i=11∨i=12∨i=13∨i=14∨i=15∨i=16∨i=17∨i=18∨i=19 by omega) with rfl|rfl|rfl|rfl|rfl|rfl|rfl|rfl|rfl|rfl|rfl|rfl|rfl|rfl|rfl|rfl|rfl|rfl|rfl|rfl
  ·exact sg
  ·have ea:t 0=.pointer (some ⟨D,0,none⟩):=hg 0 (Wt rfl)
   exact sg
  ·have ea:t 1=.pointer (some ⟨D,0,none⟩):=hg 1 (Wt rfl)
   exact sg
  ·have ea:t 2=.pointer (some ⟨D,9,none⟩):=hg 2 (Wt rfl)
   have f1:=(hb.cell (p:=⟨D,9,none⟩) hD).trans cD9
   exact sg
  ·exact sg
  ·have ea:t 4=.pointer (some ⟨D,0,none⟩):=hg 4 (Wt rfl)
   exact sg
  ·have ea:t 5=.pointer (some ⟨D,0,none⟩):=hg 5 (Wt rfl)
   exact sg
  ·have ea:t 6=.pointer (some ⟨D,1,none⟩):=hg 6 (Wt rfl)
   exact sg
  ·exact apGn4
  ·exact sg
  ·have ea:t 9=.pointer (some ⟨D,0,none⟩):=hg 9 (Wt rfl)
   exact sg
  ·have ea:t 10=.pointer (some ⟨D,0,none⟩):=hg 10 (Wt rfl)
   exact sg
  ·have ea:t 11=.pointer (some ⟨D,1,none⟩):=hg 11 (Wt rfl)
   exact sg
  ·have ea:t 12=.pointer (some ⟨D,4,none⟩):=hg 12 (Wt rfl)
   have f1:=(hb.cell (p:=⟨D,4,none⟩) hD).trans cD4
   exact sg
  ·exact sg
  ·have ea:t 14=.pointer (some ⟨D,0,none⟩):=hg 14 (Wt rfl)
   exact sg
  ·have ea:t 15=.pointer (some ⟨D,0,none⟩):=hg 15 (Wt rfl)
   exact sg
  ·have ea:t 16=.pointer (some ⟨D,1,none⟩):=hg 16 (Wt rfl)
   exact sg
  ·have ea:t 17=.pointer (some ⟨D,5,none⟩):=hg 17 (Wt rfl)
   have f1:=(hb.cell (p:=⟨D,5,none⟩) hD).trans cD5
   exact sg
  ·have ea:t 8=.int .i64 m.from_:=hg 8 (Wt rfl)
   have eb:t 13=.int .i64 m.bal:=hg 13 (Wt rfl)
   have ec:t 18=.int .i64 m.ix:=hg 18 (Wt rfl)
   exact sg
 ·intro t X K hb hg hK
  have e19:t 19=.agg #[.int .i64 4,.int .i64 0,.int .i64 m.from_,.int .i64 m.bal,.int .i64 m.ix,.int .i64 0,.string ⟨#[]⟩,.slice none 0 0]:=hg 19 (by omega)
  have e3:t 3=.func (.func 150) #[] #[.pointer (some ⟨qh,0,none⟩)]:=hg 3 (by omega)
  refine Zi rfl rfl ?_
  have HK:=hid hK
  have HC:=hid (hQc X hb)
  clear hK hg hQc
  simp only [e19,e3]
  go_simp
  go_at_call 150
  refine HC.out.mono ?_
  rintro e Y ⟨rfl,hR⟩
  have h:=HK.out _ Y ⟨t,.tuple #[],rfl,hR⟩
  simpa [e19,e3] using h
 ·rintro a X ⟨t,v3,rfl,hp⟩
  exact hQ t v3 X hp
end Go.Proofs.YtokkbdlofbdljaaGreat
