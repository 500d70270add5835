import Derived.Test.YtokkbdlofbdljaaGreatVl
import Derived.Test.YtokkbdlofbdljaaGreatVk
namespace Go.Proofs.YtokkbdlofbdljaaGreat
open Go.RowKit
set_option maxHeartbeats 8000000
theorem BdMs.fr2 {w:World} {base:Nat} {v:Value} {k:Nat} {x:Nat→Ms} {A:Nat→Option Addr} {C hb:Nat→Nat} {w':World} {P:Nat→Prop} (h:BdMs w base v k x A C hb) (hf:FrP P w w') (hp:∀ q,v.ownBlock=some q→¬P q) (hq:∀ i,i<k→(x i).n≠0→¬P (hb i)):BdMs w' base v k x A C hb:=
 ⟨by obtain ⟨c,r,e⟩:=h.row;exact ⟨c,Yr r hf (fun g hg=>hp g hg),e⟩,fun i hi=>(h.hold i hi).frP hf (fun h0=>⟨hq i hi h0,(h.hlt i hi h0).2⟩),fun i hi h0=>⟨(h.hlt i hi h0).1,ltl (h.hlt i hi h0).2 hf.size⟩,h.ne,h.inj⟩
theorem BdMs.lt {w:World} {base:Nat} {v:Value} {k:Nat} {x:Nat→Ms} {A:Nat→Option Addr} {C hb:Nat→Nat} (h:BdMs w base v k x A C hb) {q:Nat} (hq:v.ownBlock=some q):q<w.1.size:=by
 obtain ⟨c,r,_⟩:=h.row
 exact (r.lt q hq).2
theorem RcG.putEnd {w:World} {r:Rc} {p:RcP} {x:Sl} (h:RcG w (JA r r.dk.n x) p):RcG w (JC r x) p:=by
 have e:r.dk.n+(r.dk.n+1-r.dk.n)=r.dk.n+1:=by omega
 have hd:(JA r r.dk.n x).dk.n=r.dk.n+1:=e
 have hr:∀ j k,j<7→rb p (JC r x) j k→rb p (JA r r.dk.n x) j k:=fun j k hj hk=>by
  rcases (show j=0∨j=1∨j=2∨j=3∨j=4∨j=5∨j=6 by omega) with rfl|rfl|rfl|rfl|rfl|rfl|rfl
  ·exact hk
  ·exact ⟨by rw [hd];omega,hk.2⟩
  all_goals exact hk
 have o1:=h.at_.o1
 rw [hd] at o1
 have o1':SlsAt w p.A.da p.g1 (r.dk.n+1) (updF r.dk.s r.dk.n x):=o1.cong (fun i hi=>by
  show updF (fun i=>if i<r.dk.n then r.dk.s i else ⟨0,⟨#[]⟩⟩) r.dk.n x i=updF r.dk.s r.dk.n x i
  by_cases ei:i=r.dk.n
  ·rw [ei,Zm,Zm]
  ·rw [Zn _ _ ei,Zn _ _ ei,if_pos (by omega)])
 refine ⟨⟨h.at_.o0,o1',h.at_.o2,h.at_.o3,h.at_.o4,h.at_.o5,h.at_.o6,fun k ⟨j,hj,hk⟩=>h.at_.lt k ⟨j,hj,hr j k hj hk⟩,fun i j k hi hj h1 h2=>h.at_.ap i j k hi hj (hr i k hi h1) (hr j k hj h2)⟩,⟨?_,fun h0=>absurd h0 (Nat.succ_ne_zero _),fun _=>h.rm.dr (by rw [hd];omega),h.rm.hl,h.rm.h0,h.rm.hr⟩⟩
 have:=h.rm.dl
 rw [hd] at this
 exact this
theorem Pi {r:Rc} {p:RcP} {x:Sl} {q:Nat} (h:rbs p (JC r x) q):rbs p (JA r r.dk.n x) q:=by
 obtain ⟨j,hj,hk⟩:=h
 have e:r.dk.n+(r.dk.n+1-r.dk.n)=r.dk.n+1:=by omega
 have hd:(JA r r.dk.n x).dk.n=r.dk.n+1:=e
 refine ⟨j,hj,?_⟩
 rcases (show j=0∨j=1∨j=2∨j=3∨j=4∨j=5∨j=6 by omega) with rfl|rfl|rfl|rfl|rfl|rfl|rfl
 ·exact hk
 ·exact ⟨by rw [hd];omega,hk.2⟩
 all_goals exact hk
def SlB (r:Rc) (ws:Nat→ByteArray) (n:Nat):Prop:=∀ i,i<r.dk.n→∀ j,j<n→0<(r.dk.s i).bal∨¬(r.dk.s i).text=ws j
theorem SlB.br {r:Rc} {ws:Nat→ByteArray} {n:Nat} (h:SlB r ws n) {bal:Int} (hb:0<bal):∀ j,SlB (brR bal ws j r) ws n
 | 0=>h
 | j+1=>by
  have ih:=SlB.br h hb j
  rw [brR]
  split
  ·intro i hi k hk
   show 0<(updF (brR bal ws j r).dk.s (brR bal ws j r).dk.n ⟨bal,ws j⟩ i).bal∨_
   have hi':i<(brR bal ws j r).dk.n+1:=hi
   by_cases e:i=(brR bal ws j r).dk.n
   ·rw [e,Zm];exact Or.inl hb
   ·show 0<(updF (brR bal ws j r).dk.s (brR bal ws j r).dk.n ⟨bal,ws j⟩ i).bal∨¬(updF (brR bal ws j r).dk.s (brR bal ws j r).dk.n ⟨bal,ws j⟩ i).text=ws k
    rw [Zn _ _ e];exact ih i (by omega) k hk
  ·exact ih
theorem Z8 {P:Program} {fn:Func} {p t:Tmp} {ty:TypeId} (h:fn.results=#[.cell p ty,.tmp t]) (tmps:Array Value) (w:World) (g:Nat) (cs:List Value) (d:TypeDesc) (v:Value)
  (hp:tmps.getD p undef=.pointer (some ⟨g,0,none⟩)) (hc:w.rangeAt g 0 cs)
  (hu:P.underlying ty=some d) (hd:d.isRow=true) (hi:(P.info? ty).map (·.size)=some cs.length) (hv:tmps.getD t undef=v) :
  (results fn tmps).run P w=.ok (.tuple #[.agg cs.toArray,v]) w:=by
 have hp':tmps[p]?.getD undef=.pointer (some ⟨g,0,none⟩):=by simpa using hp
 have hv':tmps[t]?.getD undef=v:=by simpa using hv
 simp [results,h,hp',hv',asAddr,run_loadVar_mid w g 0 ty cs d hc hu hd hi]
def UP (r:Rc) (a:Nat):Nat→Nat × (Nat→Ms)→Nat × (Nat→Ms)
 | 0,s=>s
 | j+1,s=>YE r.num (acM r (a+j)) r.of.toNat (UP r a j s)
theorem Id (r:Rc) (a:Nat) (s:Rc) (h:s.num=r.num):∀ j,UP r a j (s.hn,s.hs)=((UN r a j s).hn,(UN r a j s).hs)∧(UN r a j s).num=r.num
 | 0=>⟨rfl,h⟩
 | j+1=>by
  obtain ⟨h1,h2⟩:=Id r a s h j
  rw [UP,UN,h1]
  exact ⟨Ng _ _ _ h2 _,(Uo _ _ _ _).trans h2⟩
def ldS (r:Rc) (s:Nat × (Nat→Ms)):Nat × (Nat→Ms):=UP (Xc r) (Xc r).dk.kn.toNat ((Xc r).dk.n-(Xc r).dk.kn.toNat) (YE (Xc r).num (beM (Xc r)) (Xc r).of.toNat s)
theorem ldS_gol (r s:Rc) (h:s.num=(Xc r).num):ldS r (s.hn,s.hs)=((Pu r s).hn,(Pu r s).hs):=by
 unfold ldS
 rw [Ng _ _ _ h]
 exact (Id (Xc r) _ (ED r s) ((Uo _ _ _ _).trans h) _).1
theorem Ec (r:Rc) (a:Nat) (s:Nat × (Nat→Ms)) (h:r.of.toNat≤10):∀ j,(UP r a j s).1≤s.1+j*10
 | 0=>by simp [UP]
 | j+1=>by
  have h1:=Ec r a s h j
  have h2:=U6 r.num (acM r (a+j)) (UP r a j s) r.of.toNat
  rw [UP]
  omega
set_option maxRecDepth 100000 in
theorem Im (r:Rc) (p:RcP) (w:World) (hg:RcG w r p) (hal:r.an≤p.A.ac) (hfl:∀ i,i<r.an→(r.as_ i).n≤p.AC i) (haw:AckW r) (hnu:1≤r.num∧r.num≤10) (hof:0≤r.of∧r.of≤10) (hsn:r.sf.n≤60) (hwn:r.wn≤1000) (hbal:0<r.bal) (hsb:SlB r r.ws r.wn) (o:Value) (base k0:Nat) (x0:Nat→Ms) (A:Nat→Option Addr) (C hb:Nat→Nat) (bd:BdMs w base o k0 x0 A C hb) (hbase:base≤w.1.size) (hk0:k0≤1000) (ap1:∀ q,o.ownBlock=some q→¬rbs p r q) (ap2:∀ i,i<k0→(x0 i).n≠0→¬rbs p r (hb i)) :
  Calls Tryz.prog 35 #[rcV r p.A,o] w fun e w'=>∃ p' o' A' C' hb',e=.returned (.tuple #[rcV (Xc r) p'.A,o'])∧RcG w' (Xc r) p'∧BdMs w' base o' (ldS r (k0,x0)).1 (ldS r (k0,x0)).2 A' C' hb'∧FrP (fun q=>rbs p r q∨o.ownBlock=some q) w w'∧(∀ q,rbs p' (Xc r) q→rbs p r q∨w.1.size≤q)∧(∀ q,o'.ownBlock=some q→o.ownBlock=some q∨w.1.size≤q):=by
 have HG:=hid hg
 have HFL:=hid hfl
 have HAL:=hid hal
 have HW:=hid (fun j hj=>haw.tws hnu j hj)
 have HSB:=hid hsb
 have BD:=hid bd
 have AP1:=hid ap1
 have AP2:=hid ap2
 have hB0:Below w.1.size w ((w.alloc (.cells (rcC r p.A) 38)).alloc (.cells (rcL 0 0 false).toArray 38)):=(Zb _ _).alloc (by simp) _
 have hN:=Bx.new2 w (rcC r p.A) (rcL 0 0 false).toArray 38 38
 have Q0:=hid hN.1
 have Z0:=hid hN.2
 have SF0:=hid (SpF.new (L:=w.1.size+2) hg hB0 (by omega) (by simp))
 clear hg hfl hal haw hsb bd ap1 ap2 hN hB0
 have main:∀ G2,Xc r=G2→Calls Tryz.prog 35 #[rcV r p.A,o] w fun e w'=>∃ p' o' A' C' hb',e=.returned (.tuple #[rcV G2 p'.A,o'])∧RcG w' G2 p'∧BdMs w' base o' (ldS r (k0,x0)).1 (ldS r (k0,x0)).2 A' C' hb'∧FrP (fun q=>rbs p r q∨o.ownBlock=some q) w w'∧(∀ q,rbs p' G2 q→rbs p r q∨w.1.size≤q)∧(∀ q,o'.ownBlock=some q→o.ownBlock=some q∨w.1.size≤q):=by
  intro G2 hG2
  have HG2:=hid hG2
  clear hG2
  go_enter Tryz.func35,Tryz.ntmps35
  go_wp2
  obtain ⟨W,hW⟩:∃ W,((w.alloc (.cells (rcC r p.A) 38)).alloc (.cells (rcL 0 0 false).toArray 38))=W:=⟨_,rfl⟩
  rw [hW] at Q0 Z0 SF0 ⊢
  clear hW
  go_loopw [6] (fun i wr=>∃ (j:Nat) (p':RcP),i=.int .i64 (j:Int)∧j≤r.sf.n∧Hid (Bx wr w.1.size (rcC (Xs r j) p'.A))∧Hid (SpF w (w.1.size+2) r p wr (Xs r j) p')∧Hid (Bx wr (w.1.size+1) (rcL 0 0 false).toArray)∧Hid ((Xs r j).an≤p'.A.ac)∧Hid (∀ i,i<(Xs r j).an→(j:Int)<((Xs r j).as_ i).ix→((Xs r j).as_ i).n≤p'.AC i)) (fun i _=>r.sf.n-(intOf i).toNat)
  case atStart=>exact ⟨0,p,rfl,zle _,Q0,SF0,Z0,HAL,hid (fun i hi _=>HFL.out i hi)⟩
  case round=>
   obtain ⟨j,p',rfl,hj,BX,SF,ZX,AL,FL⟩:=hrel
   clear Q0 Z0 SF0
   by_cases hjn:j<r.sf.n
   ·have KP:=hid (Jf r j)
    have AW:=hid (HW.out j (by omega))
    have SK:Hid (Xs r (j+1)=if (r.sf.s j).bal=r.bal then Ya (Xs r j) r.num ((j:Int)+1) else Xs r j):=hid rfl
    obtain ⟨R,hR⟩:∃ R,Xs r j=R:=⟨_,rfl⟩
    rw [hR] at BX SF AL FL KP AW SK
    have KB:=hid (show R.bal=r.bal by rw [KP.out])
    have KN:=hid (show R.num=r.num by rw [KP.out])
    have KS:=hid (show R.sf=r.sf by rw [KP.out])
    clear hR KP
    have o0:=SF.out.g.at_.o0
    rw [KS.out] at o0
    have had:=o0.addr (by omega)
    obtain ⟨c,rr,hat⟩:=o0.row (by omega)
    have c0:=(rr.cell (j*2) (by omega)).trans (congrArg some (hat j hjn).1)
    have hgl:=rr.lt
    have c5:wr.cell? ⟨w.1.size,5,none⟩=some (.slice (some ⟨p'.g0,0,none⟩) r.sf.n p'.A.sc):=by
     have h5:wr.cell? ⟨w.1.size,5,none⟩=some (.slice p'.A.sa R.sf.n p'.A.sc):=BX.out.cell 5
     rw [KS.out,had] at h5
     exact h5
    obtain ⟨bl,hbl⟩:∃ bl,(r.sf.s j).bal=bl:=⟨_,rfl⟩
    rw [hbl] at c0 SK
    have HJN:=hid hjn
    clear o0 had hat rr hbl
    have lS:=BX.out.lt
    have y0:=Zc (W1:=wr) (p:=⟨p'.g0,j*2,none⟩) (v:=.int .i64 bl) c0 hgl
    have y5:=Zc (W1:=wr) (p:=⟨w.1.size,5,none⟩) c5 lS
    have yB:=Zc (W1:=wr) (p:=⟨w.1.size,13,none⟩) (v:=.int .i64 R.bal) (BX.out.cell 13) lS
    have hne:Nonempty (GW wr):=⟨⟨_,br _ _⟩⟩
    go_wp2
    refine Zf (by kernel_rfl) (by kernel_rfl) ?_
    repeat (go_big_quiet_step (fail))
    refine wpQuiet_nil ?_
    rintro w8 ⟨v8,hv8⟩
    have HB8:Hid (Below wr.1.size wr w8):=hid (hv8▸v8.prop)
    clear hv8 v8 y0 y5 yB hne c0 c5
    have BX8:=hid (BX.out.below HB8.out lS)
    have SF8:=hid (SF.out.grow HB8.out)
    have ZX8:=hid (ZX.out.below HB8.out ZX.out.lt)
    clear BX SF ZX HB8
    by_cases he:bl=R.bal
    ·have EQ:=hid (show Xs r (j+1)=Ya R r.num ((j:Int)+1) by rw [SK.out,if_pos (he.trans KB.out)])
     have heb:(bl==R.bal)=true:=by rw [he];simp
     rw [heb]
     clear he heb SK
     have q0:w8.cell? ⟨w.1.size,0,none⟩=some (.int .i64 r.num):=(BX8.out.cell 0).trans (congrArg (fun b=>some (Value.int .i64 b)) KN.out)
     have CK:=hid (EY R p' r.num ((j:Int)+1) w8 SF8.out.g AL.out (fun i hi e=>FL.out i hi (by omega)) AW.out.ackV)
     go_wp2_with (first|((with_reducible show wpList _ _ _ (⟨some 27,Op.load 38 _,_,_,_,_⟩::_) _ _);go_must (refine LD38 (rcC R p'.A).toList BX8.out.cell ?_))|(go_at_call 86;go_must (refine CK.out.mono ?_;rintro e w9 ⟨p2,rfl,g2,f2,s2,al2,k2⟩;have BX9:=hid (SF8.out.keep (f2.mono (fun q hq=>⟨6,by omega,hq⟩)) BX8.out (lrf _) (by omega));have ZX9:=hid (SF8.out.keep (f2.mono (fun q hq=>⟨6,by omega,hq⟩)) ZX8.out (by omega) (by omega));have SF9:=hid (SF8.out.next g2 (f2.mono (fun q hq=>⟨6,by omega,hq⟩)) s2);have AL2:=hid al2;have KP2:=hid k2;clear g2 f2 s2 al2 k2 q0))|((with_reducible show wpList _ _ _ (⟨none,Op.store 38 _ _,_,_,_,_⟩::_) _ _);go_must (refine Zd rfl 38 _ _ rfl w.1.size (rcC (Ya R r.num ((j:Int)+1)) p2.A).toList rfl rfl BX9.out rfl Tryz.sz38 (by simp [Value.oneCell']) ?_;intro V1 hr9 hfr9 hsv9;have HBV1:=hid hr9;have HFV1:=hid (FrP.of_fr (P:=fun q=>q=w.1.size) hfr9 (fun k h1 h2=>by omega));clear hr9 hfr9 hsv9)))
     have SFV:=hid (SF9.out.box HFV1.out (lrf _) (by omega))
     have ZXV:=hid (ZX9.out.frP HFV1.out (by omega))
     have FL2:Hid (∀ i,i<(Ya R r.num ((j:Int)+1)).an→((j+1:Nat):Int)<((Ya R r.num ((j:Int)+1)).as_ i).ix→((Ya R r.num ((j:Int)+1)).as_ i).n≤p2.AC i):=hid (fun i hi h9=>by
      obtain ⟨i',h1,h2,h3,h4⟩:=KP2.out.2 i hi (by omega)
      rw [h4,←h3]
      exact FL.out i' h1 (by rw [h2];omega))
     go_roundw
     case rel=>exact ⟨j+1,p2,by go_num,HJN.out,by rw [EQ.out];exact HBV1,by rw [EQ.out];exact SFV,ZXV,by rw [EQ.out];exact AL2,by rw [EQ.out];exact FL2⟩
     case measure=>have:=HJN.out;simp [intOf];omega
    ·have EQ:=hid (show Xs r (j+1)=R by rw [SK.out,if_neg (fun e=>he (e.trans KB.out.symm))])
     have heb:(bl==R.bal)=false:=by simpa using he
     rw [heb]
     clear he heb SK
     have FL2:Hid (∀ i,i<R.an→((j+1:Nat):Int)<(R.as_ i).ix→(R.as_ i).n≤p'.AC i):=hid (fun i hi h9=>FL.out i hi (by omega))
     go_wp2
     go_roundw
     case rel=>exact ⟨j+1,p',by go_num,HJN.out,by rw [EQ.out];exact BX8,by rw [EQ.out];exact SF8,ZX8,by rw [EQ.out];exact AL,by rw [EQ.out];exact FL2⟩
     case measure=>have:=HJN.out;simp [intOf];omega
   ·have hje:j=r.sf.n:=by omega
    subst hje
    have AW1:=hid (HW.out r.sf.n hsn)
    have K1:=hid (Jf r r.sf.n)
    have E2:Hid (G2=brR (Xs r r.sf.n).bal (Xs r r.sf.n).ws (Xs r r.sf.n).wn (Xs r r.sf.n)):=hid HG2.out.symm
    obtain ⟨R1,hR1⟩:∃ R1,Xs r r.sf.n=R1:=⟨_,rfl⟩
    rw [hR1] at BX SF AW1 K1 E2
    have B1:=hid (show R1.bal=r.bal by rw [K1.out])
    have B2:=hid (show R1.wn=r.wn by rw [K1.out])
    have B3:=hid (show R1.ws=r.ws by rw [K1.out])
    have B4:=hid (show R1.of=r.of by rw [K1.out])
    have B6:=hid (show R1.sf.n=r.sf.n by rw [K1.out])
    have B5:=hid (show SlB R1 r.ws r.wn from by rw [K1.out];exact HSB.out)
    have E3:Hid (G2=brR r.bal r.ws r.wn R1):=hid (by rw [E2.out,B1.out,B2.out,B3.out])
    clear hR1 K1 AL FL E2
    have c5:wr.cell? ⟨w.1.size,5,none⟩=some (.slice p'.A.sa r.sf.n p'.A.sc):=(BX.out.cell 5).trans (congrArg (fun b=>some (Value.slice p'.A.sa b p'.A.sc)) B6.out)
    go_wp2
    clear c5
    go_loopw [7] (fun i wr=>∃ (j:Nat) (p':RcP),i=.int .i64 (j:Int)∧j≤r.wn∧Hid (Bx wr w.1.size (rcC (brR r.bal r.ws j R1) p'.A))∧Hid (SpF w (w.1.size+2) r p wr (brR r.bal r.ws j R1) p')∧Hid (Bx wr (w.1.size+1) (rcL 0 0 false).toArray)) (fun i _=>r.wn-(intOf i).toNat)
    case atStart=>exact ⟨0,p',rfl,zle _,BX,SF,ZX⟩
    case round=>
     clear BX SF ZX
     obtain ⟨j,p',rfl,hj,BX,SF,ZX⟩:=hrel
     obtain ⟨kb,kn,kw,ks⟩:=NI r.bal r.ws R1 j
     have hle:=IK r.bal r.ws R1 AW1.out.dn j
     have KK:=hid (NH r.bal r.ws R1 j)
     have SB:=hid (B5.out.br hbal j)
     have c10:wr.cell? ⟨w.1.size,10,none⟩=some (.slice p'.A.wa r.wn p'.A.wc):=(BX.out.cell 10).trans (congrArg (fun b=>some (Value.slice p'.A.wa b p'.A.wc)) (kw.trans B2.out))
     by_cases hjn:j<r.wn
     ·have SK:Hid (brR r.bal r.ws (j+1) R1=if (brR r.bal r.ws j R1).dk.n<60∧hasB (brR r.bal r.ws j R1).dk.n (fun i=>((brR r.bal r.ws j R1).dk.s i).text) (r.ws j)=false then JC (brR r.bal r.ws j R1) ⟨r.bal,r.ws j⟩ else brR r.bal r.ws j R1):=hid rfl
      obtain ⟨R,hR⟩:∃ R,brR r.bal r.ws j R1=R:=⟨_,rfl⟩
      rw [hR] at BX SF kb kn kw ks hle SB SK
      have KB:=hid (kb.trans B1.out)
      clear hR KK
      obtain ⟨off,had,hrow⟩:=SF.out.g.at_.o3.row (show 0<R.wn by rw [kw,B2.out];omega)
      have cg:wr.cell? ⟨p'.g3,off+j,none⟩=some (.string (r.ws j)):=by
       have:=(hrow j (by rw [kw,B2.out];exact hjn)).1
       rw [ks,B3.out] at this
       exact this
      rw [had] at c10
      have hgl:p'.g3<wr.1.size:=Zr SF.out.g.at_ (j:=3) (by omega) ⟨by rw [kw,B2.out];omega,rfl⟩
      have HAS:=hid (fun (X:World) (hb:Below wr.1.size wr X)=>(has_gen R.dk.n R.dk.s p'.A.da p'.A.dc (r.ws j) X 0 X.1.size (by omega) (fun i hi=>SB.out i hi j hjn) ((SF.out.g.grow hb).at_.o1.isIn (fun h0=>⟨zle _,(SF.out.g.grow hb).at_.lt _ ⟨1,by omega,h0,rfl⟩⟩))).mono (fun e w' h=>(⟨h.1,h.2▸br _ _⟩:e=.returned (.bool (hasB R.dk.n (fun i=>(R.dk.s i).text) (r.ws j)))∧Below X.1.size X w')))
      have HJN:=hid hjn
      have C10:=hid c10
      have CG:=hid cg
      clear kb kn kw ks had hrow cg
      cases hh:hasB R.dk.n (fun i=>(R.dk.s i).text) (r.ws j) with
      | true=>
       rw [hh] at HAS
       have EQ:=hid (show brR r.bal r.ws (j+1) R1=R by rw [SK.out,if_neg (fun e=>by rw [hh] at e;cases e.2)])
       clear hh SK
       go_wp2
       refine Ft _ _ _ _ _ _ _ _ _ _ _ _ _ _ _ _ _ _ _ _ _ _ _ _ _ _ _ _ _ _ _ _ _ _ _ _ _ _ _ _ _ _ _ _ _ _ _ _ _ _ _ _ _ _ _ _ _ _ _ _ _ _ _ _ _ _ _ _ _ _ _ _ _ _ _ _ _ _ _ _ _ _ _ _ _ _ _ _ _ _ _ _ _ _ _ _ _ _ _ _ _ _ _ _ _ _ _ w.1.size p'.g3 off j r.wn p'.A.wc (r.ws j) R p' wr BX.out hgl HJN.out hwn hle C10.out CG.out HAS.out _ ?_
       rintro t9 v9 X9 ⟨rfl,hb9⟩
       have BX9:=hid (BX.out.below hb9 BX.out.lt)
       have SF9:=hid (SF.out.grow hb9)
       have ZX9:=hid (ZX.out.below hb9 ZX.out.lt)
       clear hb9 c10
       go_wp2
       go_roundw
       case rel=>exact ⟨j+1,p',by go_num,HJN.out,by rw [EQ.out];exact BX9,by rw [EQ.out];exact SF9,ZX9⟩
       case measure=>have:=HJN.out;simp [intOf];omega
      | false=>
       rw [hh] at HAS
       by_cases h60:R.dk.n<60
       ·have EQ:=hid (show brR r.bal r.ws (j+1) R1=JC R ⟨r.bal,r.ws j⟩ by rw [SK.out,if_pos ⟨h60,hh⟩])
        have hd:decide ((R.dk.n:Int)<60)=true:=decide_eq_true (by omega)
        clear hh SK h60
        go_wp2
        refine OE _ _ _ _ _ _ _ _ _ _ _ _ _ _ _ _ _ _ _ _ _ _ _ _ _ _ _ _ _ _ _ _ _ _ _ _ _ _ _ _ _ _ _ _ _ _ _ _ _ _ _ _ _ _ _ _ _ _ _ _ _ _ _ _ _ _ _ _ _ _ _ _ _ _ _ _ _ _ _ _ _ _ _ _ _ _ _ _ _ _ _ _ _ _ _ _ _ _ _ _ _ _ _ _ _ _ _ w.1.size p'.g3 off j r.wn p'.A.wc (r.ws j) R p' wr BX.out hgl HJN.out hwn hle C10.out CG.out HAS.out _ ?_
        rintro t9 v9 X9 ⟨rfl,hb9⟩
        rw [hd]
        have BX9:=hid (BX.out.below hb9 BX.out.lt)
        have SF9:=hid (SF.out.grow hb9)
        have ZX9:=hid (ZX.out.below hb9 ZX.out.lt)
        have C109:=hid ((hb9.cell (p:=⟨w.1.size,10,none⟩) BX.out.lt).trans C10.out)
        have CG9:=hid ((hb9.cell (p:=⟨p'.g3,off+j,none⟩) hgl).trans CG.out)
        have hgl9:=ltl hgl hb9.size
        clear hb9 c10 hd BX SF ZX
        go_wp2
        refine Fv _ _ _ _ _ _ _ _ _ _ _ _ _ _ _ _ _ _ _ _ _ _ _ _ _ _ _ _ _ _ _ _ _ _ _ _ _ _ _ _ _ _ _ _ _ _ _ _ _ _ _ _ _ _ _ _ _ _ _ _ _ _ _ _ _ _ _ _ _ _ _ _ _ _ _ _ _ _ _ _ _ _ _ _ _ _ _ _ _ _ _ _ _ _ _ _ _ _ _ _ _ _ _ _ _ _ _ w.1.size p'.g3 off j r.wn p'.A.wc (r.ws j) R p' (JA R R.dk.n ⟨r.bal,r.ws j⟩) X9 (fun q Y=>RcG Y (JA R R.dk.n ⟨r.bal,r.ws j⟩) q∧FrP (rbs p' R) X9 Y∧(∀ k,rbs q (JA R R.dk.n ⟨r.bal,r.ws j⟩) k→rbs p' R k∨X9.1.size≤k)) BX9.out hgl9 HJN.out hwn hle C109.out CG9.out (fun X hb=>by
         rw [KB.out]
         exact (E5 R p' R.dk.n ⟨r.bal,r.ws j⟩ (by omega) X (SF9.out.g.grow hb)).mono fun e w' ⟨q,he,h1,h2,h3⟩=>⟨q,he,h1,(FrP.of_below (P:=rbs p' R) hb).trans h2,fun k hk=>by rcases h3 k hk with h|h;exact Or.inl h;exact Or.inr (ltr hb.size h)⟩) (fun q Y hr=>⟨_,SF9.out.keep hr.2.1 BX9.out (lrf _) (by omega),rfl⟩) _ ?_
        rintro t10 v10 X10 ⟨q,Y,⟨g10,f10,s10⟩,b10,fr10,_⟩
        have FS:=FrP.of_fr (P:=fun q=>q=w.1.size) fr10 (fun k h1 h2=>by omega)
        have BXA:Hid (Bx X10 w.1.size (rcC (JC R ⟨r.bal,r.ws j⟩) q.A)):=hid (by
         have e:R.dk.n+(R.dk.n+1-R.dk.n)=R.dk.n+1:=by omega
         have hb10:Bx X10 w.1.size #[.int .i64 R.num,.int .i64 R.of,.bool R.up,.int .i64 R.sf.pr,.int .i64 R.sf.kn,.slice q.A.sa R.sf.n q.A.sc,.int .i64 R.dk.pr,.int .i64 R.dk.kn,.slice q.A.da (R.dk.n+(R.dk.n+1-R.dk.n)) q.A.dc,.slice q.A.ha R.hn q.A.hc,.slice q.A.wa R.wn q.A.wc,.bool R.ld,.bool R.tr,.int .i64 R.bal,.slice q.A.ya R.yn q.A.yc,.slice q.A.ba R.bn q.A.bc,.slice q.A.aa R.an q.A.ac,.int .i64 R.hd]:=b10
         rw [e] at hb10
         exact hb10)
        have SFA:=hid (((SF9.out.next g10 f10 s10).re g10.putEnd (fun k hk=>Pi hk)).box FS (lrf _) (by omega))
        have ZXA:=hid ((SF9.out.keep f10 ZX9.out (by omega) (by omega)).frP FS (by omega))
        clear g10 f10 s10 b10 fr10 FS BX9 SF9 ZX9
        go_wp2
        go_roundw
        case rel=>exact ⟨j+1,q,by go_num,HJN.out,by rw [EQ.out];exact BXA,by rw [EQ.out];exact SFA,ZXA⟩
        case measure=>have:=HJN.out;simp [intOf];omega
       ·have EQ:=hid (show brR r.bal r.ws (j+1) R1=R by rw [SK.out,if_neg (fun e=>h60 e.1)])
        have hd:decide ((R.dk.n:Int)<60)=false:=decide_eq_false (by omega)
        clear hh SK h60
        go_wp2
        refine OE _ _ _ _ _ _ _ _ _ _ _ _ _ _ _ _ _ _ _ _ _ _ _ _ _ _ _ _ _ _ _ _ _ _ _ _ _ _ _ _ _ _ _ _ _ _ _ _ _ _ _ _ _ _ _ _ _ _ _ _ _ _ _ _ _ _ _ _ _ _ _ _ _ _ _ _ _ _ _ _ _ _ _ _ _ _ _ _ _ _ _ _ _ _ _ _ _ _ _ _ _ _ _ _ _ _ _ w.1.size p'.g3 off j r.wn p'.A.wc (r.ws j) R p' wr BX.out hgl HJN.out hwn hle C10.out CG.out HAS.out _ ?_
        rintro t9 v9 X9 ⟨rfl,hb9⟩
        rw [hd]
        have BX9:=hid (BX.out.below hb9 BX.out.lt)
        have SF9:=hid (SF.out.grow hb9)
        have ZX9:=hid (ZX.out.below hb9 ZX.out.lt)
        clear hb9 c10 hd
        go_wp2
        go_roundw
        case rel=>exact ⟨j+1,p',by go_num,HJN.out,by rw [EQ.out];exact BX9,by rw [EQ.out];exact SF9,ZX9⟩
        case measure=>have:=HJN.out;simp [intOf];omega
     ·have hje:j=r.wn:=by omega
      subst hje
      obtain ⟨W2,hW2⟩:∃ W2:World,W2=wr:=⟨_,rfl⟩
      subst hW2
      have E4:=hid E3.out.symm
      rw [E4.out] at BX SF kb kn kw ks hle KK
      clear SB B5 kw ks
      have LDS:Hid (ldS r (k0,x0)=UP G2 G2.dk.kn.toNat (G2.dk.n-G2.dk.kn.toNat) (YE G2.num (beM G2) G2.of.toNat (k0,x0))):=hid (by unfold ldS;rw [HG2.out])
      have OF:G2.of=r.of:=KK.out.2.2.trans B4.out
      obtain ⟨a,ha⟩:∃ a:Nat,G2.dk.kn=(a:Int):=⟨G2.dk.kn.toNat,by have h1:=KK.out.1;have h2:=AW1.out.k0;omega⟩
      have han:a≤G2.dk.n:=by have h1:=KK.out.1;have h2:=AW1.out.k1;have h3:=KK.out.2.1;omega
      have hat:G2.dk.kn.toNat=a:=by omega
      rw [hat] at LDS
      have q7:W2.cell? ⟨w.1.size,7,none⟩=some (.int .i64 G2.dk.kn):=BX.out.cell 7
      have q13:W2.cell? ⟨w.1.size,13,none⟩=some (.int .i64 G2.bal):=BX.out.cell 13
      have HA:=hid ha
      have lS:=BX.out.lt
      have OWL:Hid (∀ q,o.ownBlock=some q→q<w.1.size):=hid (fun q hq=>BD.out.lt hq)
      have nS:∀ b,w.1.size≤b→b<W2.1.size→¬(o.ownBlock=some b∨W2.1.size≤b):=fun b h1 h2 e=>by
       rcases e with e|e
       ·have:=OWL.out b e;omega
       ·omega
      have NS:=hid nS
      have BDW:=hid (BD.out.fr2 SF.out.fr (fun q hq e=>by
       rcases e with e|e
       ·exact AP1.out q hq e
       ·have:=OWL.out q hq;omega) (fun i hi h0 e=>by
       rcases e with e|e
       ·exact AP2.out i hi h0 e
       ·have:=(BD.out.hlt i hi h0).2;omega))
      have NR:Hid (∀ q,rbs p' G2 q→¬(o.ownBlock=some q∨W2.1.size≤q)):=hid (fun q hq e=>by
       rcases e with e|e
       ·rcases SF.out.bl q hq with h|h
        ·exact AP1.out q e h
        ·have:=OWL.out q e;omega
       ·have:=SF.out.g.at_.lt q hq;omega)
      have SO:=hid (Un G2 p'.A (beM G2) rfl k0 x0 o base A C hb W2 (by omega) (by omega) (by omega) (ltr hbase SF.out.fr.size) BDW.out)
      have hzw:=SF.out.fr.size
      have HOFN:Hid (G2.of.toNat≤10):=hid (by omega)
      have HOFZ:Hid (0≤G2.of∧G2.of≤1000):=hid (by omega)
      clear ha hat BDW nS kb kn KK OF
      go_wp2_with (first|((with_reducible show wpList _ _ _ (⟨some 72,Op.load 38 _,_,_,_,_⟩::_) _ _);go_must (refine LD38 (rcC G2 p'.A).toList BX.out.cell ?_))|(go_at_call 39;go_must (refine SO.out.mono ?_;rintro e w3 ⟨o1,A1,C1,hb1,rfl,bd1,fr1,ow1⟩;have BD1:=hid bd1;have FR1:Hid (FrP (fun q=>o.ownBlock=some q∨W2.1.size≤q) W2 w3):=hid (fr1.mono (fun q hq=>Or.inl hq));have OW1:Hid (∀ q,o1.ownBlock=some q→o.ownBlock=some q∨W2.1.size≤q):=hid ow1;have B3x:=hid (BX.out.frP FR1.out (NS.out _ (lrf _) lS));clear q7 q13 c10 bd1 fr1 ow1;have q7:w3.cell? ⟨w.1.size,7,none⟩=some (.int .i64 (a:Int)):=(B3x.out.cell 7).trans (congrArg (fun b=>some (Value.int .i64 b)) HA.out))))
      clear q7
      have O1L:=U6 G2.num (beM G2) (k0,x0) G2.of.toNat
      obtain ⟨s1,hs1⟩:∃ s1,YE G2.num (beM G2) G2.of.toNat (k0,x0)=s1:=⟨_,rfl⟩
      rw [hs1] at BD1 LDS O1L
      have O2L:Hid (s1.1≤1010):=hid (by have h7:(k0,x0).1=k0:=rfl;have h8:=HOFN.out;omega)
      clear hs1 O1L
      go_loopw [1,8] (fun v i wx=>∃ (j:Nat) (A':Nat→Option Addr) (C' hb':Nat→Nat),i=.int .i64 ((a+j:Nat):Int)∧a+j≤G2.dk.n∧Hid (BdMs wx base v (UP G2 a j s1).1 (UP G2 a j s1).2 A' C' hb')∧Hid (FrP (fun q=>o.ownBlock=some q∨W2.1.size≤q) W2 wx)∧Hid (∀ q,v.ownBlock=some q→o.ownBlock=some q∨W2.1.size≤q)) (fun _ i _=>G2.dk.n-(intOf i).toNat)
      case atStart=>exact ⟨0,A1,C1,hb1,rfl,han,BD1,FR1,OW1⟩
      case round=>
       clear BD1 FR1 OW1 B3x
       obtain ⟨j,A',C',hb',rfl,hj,BDJ,FRJ,OWJ⟩:=hrel
       have BXJ:=hid (BX.out.frP FRJ.out (NS.out _ (lrf _) lS))
       have GJ:=hid (SF.out.g.fr FRJ.out (fun q hq e=>NR.out q hq e))
       have q8:wr.cell? ⟨w.1.size,8,none⟩=some (.slice p'.A.da G2.dk.n p'.A.dc):=BXJ.out.cell 8
       by_cases hjn:a+j<G2.dk.n
       ·have had:=GJ.out.at_.o1.addr (by omega)
        obtain ⟨c,rr,hat⟩:=GJ.out.at_.o1.row (by omega)
        have cg:=hid ((rr.cell ((a+j)*2+1) (by omega)).trans (congrArg some (hat (a+j) hjn).2))
        have hgl:=rr.lt
        have C8:=hid (show wr.cell? ⟨w.1.size,8,none⟩=some (.slice (some ⟨p'.g1,0,none⟩) G2.dk.n p'.A.dc) by rw [←had];exact q8)
        have HJN:=hid hjn
        have hle2:=Ec G2 a s1 HOFN.out j
        have SO:=hid (fun X (hb:Below wr.1.size wr X)=>Un G2 p'.A (acM G2 (a+j)) rfl (UP G2 a j s1).1 (UP G2 a j s1).2 u1 base A' C' hb' X HOFZ.out.1 HOFZ.out.2 (by have:=O2L.out;omega) (by have:=FRJ.out.size;have:=hb.size;omega) (BDJ.out.grow hb))
        clear had hat rr
        go_wp2
        refine Fu _ _ _ _ _ _ _ _ _ _ _ _ _ _ _ _ _ _ _ _ _ _ _ _ _ _ _ _ _ _ _ _ _ _ _ _ _ _ _ _ _ _ _ _ _ _ _ _ _ _ _ _ _ _ _ _ _ _ _ _ _ _ _ _ _ _ _ _ _ _ _ _ _ _ _ _ _ _ _ _ _ _ _ _ _ _ _ _ _ _ _ _ _ _ _ _ _ _ _ _ _ _ _ _ _ _ w.1.size p'.g1 (a+j) G2.dk.n p'.A.dc (G2.dk.s (a+j)).text u1 G2 p' (fun v Y=>(∃ (A':Nat→Option Addr) (C' hb':Nat→Nat),BdMs Y base v (UP G2 a (j+1) s1).1 (UP G2 a (j+1) s1).2 A' C' hb')∧FrP (fun q=>o.ownBlock=some q∨W2.1.size≤q) W2 Y∧(∀ q,v.ownBlock=some q→o.ownBlock=some q∨W2.1.size≤q)) wr BXJ.out hgl HJN.out (by omega) C8.out cg.out (fun X hb=>(SO.out X hb).mono fun e w' h=>?_) _ ?_
        ·obtain ⟨o2,A2,C2,hb2,he,bd2,fr2,ow2⟩:=h
         refine ⟨o2,he,⟨A2,C2,hb2,bd2⟩,(FRJ.out.trans (FrP.of_below hb)).trans2 fr2 (fun q hq e=>OWJ.out q e),fun q hq=>?_⟩
         rcases ow2 q hq with h|h
         ·exact OWJ.out q h
         ·exact Or.inr (by have:=FRJ.out.size;have:=hb.size;omega)
        ·rintro t9 v9 Y ⟨⟨A2,C2,hb2,bd2⟩,fr2,ow2⟩
         have BD2:=hid bd2
         have FR2:=hid fr2
         have OW2:=hid ow2
         clear bd2 fr2 ow2
         go_wp2
         go_roundw
         case rel=>exact ⟨j+1,A2,C2,hb2,by go_num,by have:=HJN.out;omega,BD2,FR2,OW2⟩
         case measure=>have:=HJN.out;simp [intOf];omega
       ·have hje:j=G2.dk.n-a:=by omega
        subst hje
        have ZXJ:=hid (ZX.out.frP FRJ.out (NS.out _ (by omega) ZX.out.lt))
        have zlt:=ZXJ.out.lt
        go_wp2_with (first|((with_reducible show wpList _ _ _ (⟨some 107,Op.load 38 _,_,_,_,_⟩::_) _ _);go_must (refine LD38 (rcC G2 p'.A).toList BXJ.out.cell ?_))|((with_reducible show wpList _ _ _ (⟨none,Op.store 38 _ _,_,_,_,_⟩::_) _ _);go_must (refine Zd rfl 38 _ _ rfl (w.1.size+1) (rcC G2 p'.A).toList rfl rfl ZXJ.out rfl Tryz.sz38 (by simp [Value.oneCell']) ?_;intro Vz hr9 hfr9 hsv9;have HBVz:=hid hr9;have HFVz:=hid (FrP.of_fr (P:=fun q=>q=(w.1.size+1)) hfr9 (fun k h1 h2=>by omega));clear hr9 hfr9 hsv9)))
        have hlS:=SF.out.hl
        have nZ:∀ i,i<(UP G2 a (G2.dk.n-a) s1).1→((UP G2 a (G2.dk.n-a) s1).2 i).n≠0→¬hb' i=w.1.size+1:=fun i hi h0 e=>by
         obtain ⟨c,rr,hat⟩:=(BDJ.out.hold i hi).row (Nat.pos_of_ne_zero h0)
         have h1:=(rr.cell 1 (by omega)).trans (congrArg some (hat 0 (Nat.pos_of_ne_zero h0)).2)
         rw [e] at h1
         have h2:wr.cell? ⟨w.1.size+1,1,none⟩=some (.int .i64 0):=ZXJ.out.cell 1
         rw [h2] at h1
         cases h1
        have FF:=((SF.out.fr.mono (fun q hq=>(by rcases hq with h|h;exact Or.inl (Or.inl h);exact Or.inr h:(rbs p r q∨o.ownBlock=some q)∨w.1.size≤q))).trans2 FRJ.out (fun q hq e=>by
         rcases e with e|e
         ·exact Or.inl (Or.inr e)
         ·exact Or.inr (by omega))).trans2 HFVz.out (fun q hq e=>Or.inr (by omega))
        have R1g:=GJ.out.fr HFVz.out (fun q hq e=>SF.out.ne (b:=q) (by omega) (by omega) hq)
        have R2b:=BDJ.out.fr2 HFVz.out (fun q hq e=>by
         rcases OWJ.out q hq with h|h
         ·have:=OWL.out q h;omega
         ·have:=ZX.out.lt;omega) (fun i hi h0 e=>nZ i hi h0 e)
        rw [←LDS.out] at R2b
        have R3f:=FF.low
        have R4:∀ q,rbs p' G2 q→rbs p r q∨w.1.size≤q:=fun q hq=>by
         rcases SF.out.bl q hq with h|h
         ·exact Or.inl h
         ·exact Or.inr (by omega)
        refine bodyPost_ret (v:=.tuple #[.agg (rcC G2 p'.A),u1]) (Z8 rfl _ _ (w.1.size+1) (rcC G2 p'.A).toList _ _ rfl (Holds.range (cs:=(rcC G2 p'.A).toList) HBVz.out.cell) Tryz.underlying38 rfl Tryz.sz38 rfl) rfl ?_
        have R5:∀ q,u1.ownBlock=some q→o.ownBlock=some q∨w.1.size≤q:=fun q hq=>(OWJ.out q hq).imp id (fun h=>ltr hzw h)
        exact ⟨p',u1,rfl,R1g,⟨A',C',hb',R2b⟩,R3f,R4,R5⟩
 exact main _ rfl
def UE (r:Rc):Rc:=if rcB r=true then (if r.up=true then Kt r else r) else rc0 0 0 false
def UF (r:Rc):Rc:=if rcB r=true∧r.up=true then Ke r else rc0 0 0 false
set_option maxRecDepth 100000 in
theorem IC (r:Rc) (A:RcA) (w:World) (lo hi:Nat) (hhi:hi≤w.1.size) (hm:ZW r) (hf:ZR r) (hn:ZX r A) (hc:RcIn w lo hi r A) :
  Calls Tryz.prog 9 #[rcV r A] w fun e w'=>∃ p ps,e=.returned (.tuple #[rcV (UE r) p.A,.slice ps.A.ha (UF r).hn ps.A.hc])∧RcAt w' (UE r) p∧RcAt w' (UF r) ps∧(∀ k,rbs p (UE r) k→w.1.size≤k∧¬rbs ps (UF r) k)∧(∀ k,rbs ps (UF r) k→w.1.size≤k)∧Below w.1.size w w':=by
 have HM:=hid hm
 have HF:=hid hf
 have HN:=hid hn
 have HC:=hid hc
 have hV:=hid (Uz r A)
 have hB0:Below w.1.size w ((w.alloc (.cells (rcC r A) 38)).alloc (.cells (rcL 0 0 false).toArray 38)):=(Zb _ _).alloc (by simp) _
 have hN2:=Bx.new2 w (rcC r A) (rcL 0 0 false).toArray 38 38
 have Q0:=hid hN2.1
 have Z0:=hid hN2.2
 have HB0:=hid hB0
 clear hm hf hn hc hN2 hB0
 obtain ⟨bv,hbv⟩:∃ b,rcB r=b:=⟨_,rfl⟩
 rw [hbv] at hV
 have HBV0:=hid hbv
 clear hbv
 cases bv
 ·have OUT:=hid (show UE r=rc0 0 0 false from if_neg (by rw [HBV0.out];simp))
  have OUS:=hid (show UF r=rc0 0 0 false from if_neg (fun e=>by rw [HBV0.out] at e;cases e.1))
  have mark:Nat:=0
  generalize UE r=O at *
  generalize UF r=OS at *
  go_enter Tryz.func9,Tryz.ntmps9
  go_wp2_with (first|((with_reducible show wpList _ _ _ (⟨some 6,_,_,_,_,_⟩::_) _ _);clear mark;go_must ((generalize ((w.alloc (.cells (rcC r A) 38)).alloc (.cells (rcL 0 0 false).toArray 38))=W at *);have z0lt:=Z0.out.lt))|((with_reducible show wpList _ _ _ (⟨some 6,Op.load 38 _,_,_,_,_⟩::_) _ _);go_must (refine LD38 (rcC r A).toList Q0.out.cell ?_))|(go_at_call 47;go_must (refine (hV.out W lo hi (ltr hhi HB0.out.size) HF.out HN.out (HC.out.below HB0.out hhi)).mono ?_;rintro e w1 ⟨rfl,hb1⟩;have B1:=hid (HB0.out.trans (hb1.mono HB0.out.size));have Q1:=hid (Q0.out.below hb1 Q0.out.lt);have Z1:=hid (Z0.out.below hb1 Z0.out.lt);have z1lt:w.1.size+1<w1.1.size:=Z1.out.lt;clear hb1 Q0 Z0 HB0))|((with_reducible show wpList _ _ _ (⟨none,Op.store 38 (Operand.tmp 2) _,_,_,_,_⟩::_) _ _);go_must (refine Zd rfl 38 _ _ rfl (w.1.size+1) (rcL 0 0 false) rfl rfl Z1.out rfl Tryz.sz38 (by simp [Value.oneCell']) ?_;intro Vz hr hfr hsv;have HBVz:=hid hr;have HFVz:=hid (FrP.of_fr (P:=fun q=>q=(w.1.size+1)) hfr (fun k h1 h2=>by omega));clear hr hfr hsv)))
  refine bodyPost_ret (v:=.tuple #[rcZ 0 0 false,.slice none 0 0]) (Z8 rfl _ _ (w.1.size+1) (rcL 0 0 false) _ _ rfl (Holds.range (cs:=(rcL 0 0 false)) HBVz.out.cell) Tryz.underlying38 rfl Tryz.sz38 rfl) rfl ?_
  rw [OUT.out,OUS.out]
  exact ⟨pN,pN,rfl,RcAt.none _ _ _ _,RcAt.none _ _ _ _,fun k ⟨j,_,hk⟩=>absurd hk (KT 0 0 false j k),fun k ⟨j,_,hk⟩=>absurd hk (KT 0 0 false j k),B1.out.trans (HFVz.out.below (B:=w.1.size) (fun k hk e=>by omega) (by omega))⟩
 ·cases hup:r.up
  ·have HUP:=hid hup
   have OUT:=hid (show UE r=r by unfold UE;rw [if_pos HBV0.out,if_neg (by rw [hup];simp)])
   have OUS:=hid (show UF r=rc0 0 0 false from if_neg (fun e=>by rw [hup] at e;cases e.2))
   clear hup
   have mark:Nat:=0
   generalize UE r=O at *
   generalize UF r=OS at *
   go_enter Tryz.func9,Tryz.ntmps9
   go_wp2_with (first|((with_reducible show wpList _ _ _ (⟨some 6,_,_,_,_,_⟩::_) _ _);clear mark;go_must ((generalize ((w.alloc (.cells (rcC r A) 38)).alloc (.cells (rcL 0 0 false).toArray 38))=W at *);have z0lt:=Z0.out.lt))|((with_reducible show wpList _ _ _ (⟨some 6,Op.load 38 _,_,_,_,_⟩::_) _ _);go_must (refine LD38 (rcC r A).toList Q0.out.cell ?_))|(go_at_call 47;go_must (refine (hV.out W lo hi (ltr hhi HB0.out.size) HF.out HN.out (HC.out.below HB0.out hhi)).mono ?_;rintro e w1 ⟨rfl,hb1⟩;have B1:=hid (HB0.out.trans (hb1.mono HB0.out.size));have Q1:=hid (Q0.out.below hb1 Q0.out.lt);have Z1:=hid (Z0.out.below hb1 Z0.out.lt);have z1lt:w.1.size+1<w1.1.size:=Z1.out.lt;clear hb1 Q0 Z0 HB0))|((with_reducible show wpList _ _ _ (⟨some 10,Op.load 38 _,_,_,_,_⟩::_) _ _);go_must (refine LD38 (rcC r A).toList Q1.out.cell ?_))|(go_at_call 48;go_must (refine (XT r A w1 lo hi (ltr hhi B1.out.size) HM.out (HC.out.below B1.out hhi)).mono ?_;rintro e w2 ⟨p,rfl,hg,htt,hac,hb0,hge,hb2⟩;have B2:=hid (B1.out.trans (hb2.mono B1.out.size));have Q2:=hid (Q1.out.below hb2 Q1.out.lt);have Z2:=hid (Z1.out.below hb2 Z1.out.lt);have HG2:=hid hg;have HTT:=hid htt;have HAC:=hid hac;have HB00:=hid hb0;have HGE:=hid (fun k hk=>ltl z1lt (hge k hk));have z2lt:=Z2.out.lt;have z12:=hb2.size;clear hg htt hac hb0 hge hb2 Q1 Z1 B1))|((with_reducible show wpList _ _ _ (⟨none,Op.store 38 (Operand.tmp 4) _,_,_,_,_⟩::_) _ _);go_must (refine Zd rfl 38 _ _ rfl w2.1.size (rcC r p.A).toList rfl rfl (Bx.new w2 (rcL 0 0 false).toArray 38) rfl Tryz.sz38 (by simp [Value.oneCell']) ?_;intro V hr hfr hsv;have HBV:=hid hr;have HFV:=hid (FrP.of_fr (P:=fun q=>q=w2.1.size) hfr (fun k h1 h2=>by omega));clear hr hfr hsv;have hb3:Below w2.1.size w2 V:=(Zb w2 _).trans (HFV.out.below (B:=w2.1.size) (fun q hq e=>by omega) (by simp));have B3:=hid (B2.out.trans (hb3.mono B2.out.size));have Q3:=hid (Q2.out.below hb3 Q2.out.lt);have Z3:=hid (Z2.out.below hb3 Z2.out.lt);have HG3:=hid (HG2.out.grow hb3);have z3lt:=Z3.out.lt;have q3lt:=Q3.out.lt;have HLT:=hid HG2.out.at_.lt;have u2:V.cell? ⟨w.1.size,2,none⟩=some (.bool false):=(Q3.out.cell 2).trans (congrArg (fun b=>some (Value.bool b)) HUP.out);clear hb3 Q2 Z2 B2 HFV))|((with_reducible show wpList _ _ _ (⟨some 15,Op.load 38 _,_,_,_,_⟩::_) _ _);go_must (refine LD38 (rcC r p.A).toList HBV.out.cell ?_))|((with_reducible show wpList _ _ _ (⟨none,Op.store 38 (Operand.tmp 2) _,_,_,_,_⟩::_) _ _);go_must (refine Zd rfl 38 _ _ rfl (w.1.size+1) (rcC r p.A).toList rfl rfl Z3.out rfl Tryz.sz38 (by simp [Value.oneCell']) ?_;intro Vz hr hfr hsv;have HBVz:=hid hr;have HFVz:=hid (FrP.of_fr (P:=fun q=>q=(w.1.size+1)) hfr (fun k h1 h2=>by omega));clear hr hfr hsv)))
   refine bodyPost_ret (v:=.tuple #[.agg (rcC r p.A),.slice none 0 0]) (Z8 rfl _ _ (w.1.size+1) (rcC r p.A).toList _ _ rfl (Holds.range (cs:=(rcC r p.A).toList) HBVz.out.cell) Tryz.underlying38 rfl Tryz.sz38 rfl) rfl ?_
   rw [OUT.out,OUS.out]
   exact ⟨p,pN,rfl,(HG3.out.fr HFVz.out (fun k hk e=>by have:=HGE.out k hk;omega)).at_,RcAt.none _ _ _ _,fun k hk=>⟨by have:=HGE.out k hk;omega,fun ⟨j,_,hj⟩=>absurd hj (KT 0 0 false j k)⟩,fun k ⟨j,_,hk⟩=>absurd hk (KT 0 0 false j k),B3.out.trans (HFVz.out.below (B:=w.1.size) (fun k hk e=>by omega) (by omega))⟩
  ·have HUP:=hid hup
   have OUT:=hid (show UE r=Kt r by unfold UE;rw [if_pos HBV0.out,if_pos hup])
   have OUS:=hid (show UF r=Ke r from if_pos ⟨HBV0.out,hup⟩)
   have HVD:=hid (Ih HBV0.out)
   clear hup
   have mark:Nat:=0
   generalize UE r=O at *
   generalize UF r=OS at *
   go_enter Tryz.func9,Tryz.ntmps9
   go_wp2_with (first|((with_reducible show wpList _ _ _ (⟨some 6,_,_,_,_,_⟩::_) _ _);clear mark;go_must ((generalize ((w.alloc (.cells (rcC r A) 38)).alloc (.cells (rcL 0 0 false).toArray 38))=W at *);have z0lt:=Z0.out.lt))|((with_reducible show wpList _ _ _ (⟨some 6,Op.load 38 _,_,_,_,_⟩::_) _ _);go_must (refine LD38 (rcC r A).toList Q0.out.cell ?_))|(go_at_call 47;go_must (refine (hV.out W lo hi (ltr hhi HB0.out.size) HF.out HN.out (HC.out.below HB0.out hhi)).mono ?_;rintro e w1 ⟨rfl,hb1⟩;have B1:=hid (HB0.out.trans (hb1.mono HB0.out.size));have Q1:=hid (Q0.out.below hb1 Q0.out.lt);have Z1:=hid (Z0.out.below hb1 Z0.out.lt);have z1lt:w.1.size+1<w1.1.size:=Z1.out.lt;clear hb1 Q0 Z0 HB0))|((with_reducible show wpList _ _ _ (⟨some 10,Op.load 38 _,_,_,_,_⟩::_) _ _);go_must (refine LD38 (rcC r A).toList Q1.out.cell ?_))|(go_at_call 48;go_must (refine (XT r A w1 lo hi (ltr hhi B1.out.size) HM.out (HC.out.below B1.out hhi)).mono ?_;rintro e w2 ⟨p,rfl,hg,htt,hac,hb0,hge,hb2⟩;have B2:=hid (B1.out.trans (hb2.mono B1.out.size));have Q2:=hid (Q1.out.below hb2 Q1.out.lt);have Z2:=hid (Z1.out.below hb2 Z1.out.lt);have HG2:=hid hg;have HTT:=hid htt;have HAC:=hid hac;have HB00:=hid hb0;have HGE:=hid (fun k hk=>ltl z1lt (hge k hk));have z2lt:=Z2.out.lt;have z12:=hb2.size;clear hg htt hac hb0 hge hb2 Q1 Z1 B1))|((with_reducible show wpList _ _ _ (⟨none,Op.store 38 (Operand.tmp 4) _,_,_,_,_⟩::_) _ _);go_must (refine Zd rfl 38 _ _ rfl w2.1.size (rcC r p.A).toList rfl rfl (Bx.new w2 (rcL 0 0 false).toArray 38) rfl Tryz.sz38 (by simp [Value.oneCell']) ?_;intro V hr hfr hsv;have HBV:=hid hr;have HFV:=hid (FrP.of_fr (P:=fun q=>q=w2.1.size) hfr (fun k h1 h2=>by omega));clear hr hfr hsv;have hb3:Below w2.1.size w2 V:=(Zb w2 _).trans (HFV.out.below (B:=w2.1.size) (fun q hq e=>by omega) (by simp));have B3:=hid (B2.out.trans (hb3.mono B2.out.size));have Q3:=hid (Q2.out.below hb3 Q2.out.lt);have Z3:=hid (Z2.out.below hb3 Z2.out.lt);have HG3:=hid (HG2.out.grow hb3);have z3lt:=Z3.out.lt;have q3lt:=Q3.out.lt;have HLT:=hid HG2.out.at_.lt;have u2:V.cell? ⟨w.1.size,2,none⟩=some (.bool true):=(Q3.out.cell 2).trans (congrArg (fun b=>some (Value.bool b)) HUP.out);clear hb3 Q2 Z2 B2 HFV))|(go_at_call 49;go_must (refine (Oc w2.1.size r p V HBV.out HG3.out (fun q hq e=>by have:=HLT.out q hq;omega) HTT.out HAC.out HB00.out HVD.out).mono ?_;rintro e w5 ⟨p5,ps5,rfl,x5,g5,sg5,ap5,sp5,f5,n5,m5⟩;have X5:=hid x5;have G5:=hid g5;have SG5:=hid sg5;have AP5:=hid ap5;have F5:=hid f5;have N5:=hid n5;have M5:=hid m5;have Z5:=hid (Z3.out.frP f5 (fun e=>by rcases e with e|e;omega;have:=HGE.out _ e;omega));clear x5 g5 sg5 ap5 sp5 f5 n5 m5 u2))|((with_reducible show wpList _ _ _ (⟨some 17,Op.load 38 _,_,_,_,_⟩::_) _ _);go_must (refine LD38 (rcC (Kt r) p5.A).toList X5.out.cell ?_))|((with_reducible show wpList _ _ _ (⟨none,Op.store 38 (Operand.tmp 2) _,_,_,_,_⟩::_) _ _);go_must (refine Zd rfl 38 _ _ rfl (w.1.size+1) (rcC (Kt r) p5.A).toList rfl rfl Z5.out rfl Tryz.sz38 (by simp [Value.oneCell']) ?_;intro Vz hr hfr hsv;have HBVz:=hid hr;have HFVz:=hid (FrP.of_fr (P:=fun q=>q=(w.1.size+1)) hfr (fun k h1 h2=>by omega));clear hr hfr hsv)))
   refine bodyPost_ret (v:=.tuple #[.agg (rcC (Kt r) p5.A),.slice ps5.A.ha (Ke r).hn ps5.A.hc]) (Z8 rfl _ _ (w.1.size+1) (rcC (Kt r) p5.A).toList _ _ rfl (Holds.range (cs:=(rcC (Kt r) p5.A).toList) HBVz.out.cell) Tryz.underlying38 rfl Tryz.sz38 rfl) rfl ?_
   rw [OUT.out,OUS.out]
   have ge5:∀ k,rbs p5 (Kt r) k→w.1.size+1<k:=fun k hk=>by
    rcases N5.out k hk with h|h
    ·exact HGE.out k h
    ·omega
   have gm5:∀ k,rbs ps5 (Ke r) k→w.1.size+1<k:=fun k hk=>by
    rcases M5.out k hk with h|h
    ·exact HGE.out k h
    ·omega
   exact ⟨p5,ps5,rfl,(G5.out.fr HFVz.out (fun k hk e=>by have:=ge5 k hk;omega)).at_,(SG5.out.fr HFVz.out (fun k hk e=>by have:=gm5 k hk;omega)).at_,fun k hk=>⟨by have:=ge5 k hk;omega,(AP5.out k hk).2⟩,fun k hk=>by have:=gm5 k hk;omega,B3.out.trans ((F5.out.below (B:=w.1.size) (fun k hk e=>by rcases e with e|e;omega;have:=HGE.out k e;omega) (by omega)).trans (HFVz.out.below (B:=w.1.size) (fun k hk e=>by omega) (by have:=F5.out.size;omega)))⟩
theorem Lim.tws {r:Rc} (h:Lim r) (ha:AckW r) (hn:1≤r.num∧r.num≤10):∀ j,j≤60→Lim (Xs r j)
 | 0,_=>h
 | j+1,hj=>by
  have h1:=Lim.tws h ha hn j (by omega)
  have a1:=(ha.tws hn j (by omega)).ackV
  rw [Xs]
  split
  ·exact h1.took a1.an a1.fn _ _
  ·exact h1
theorem Lim.br {r:Rc} (h:Lim r) {bal:Int} {ws:Nat→ByteArray} {n:Nat} (hw:∀ i,i<n→(ws i).size≤100):∀ j,j≤n→Lim (brR bal ws j r)
 | 0,_=>h
 | j+1,hj=>by
  have h1:=Lim.br (bal:=bal) h hw j (by omega)
  rw [brR]
  split
  ·rename_i hc
   refine ⟨h1.sn,h1.st,hc.1,fun i hi=>?_,h1.hn,h1.hm,h1.wn,h1.wt,h1.yn,h1.bn,h1.bt,h1.an,h1.fn⟩
   show (updF (brR bal ws j r).dk.s (brR bal ws j r).dk.n ⟨bal,ws j⟩ i).text.size≤100
   have hi':i<(brR bal ws j r).dk.n+1:=hi
   by_cases e:i=(brR bal ws j r).dk.n
   ·rw [e,Zm];exact hw j (by omega)
   ·rw [Zn _ _ e];exact h1.dt i (by omega)
  ·exact h1
theorem Lim.wait {r:Rc} (h:Lim r):Lim (XX r):=⟨h.sn,h.st,h.dn,h.dt,h.hn,h.hm,h.wn,h.wt,zle _,zle _,fun _i hi=>absurd hi (nlz _),zle _,fun _i hi=>absurd hi (nlz _)⟩
theorem Lim.tri {r:Rc} (h:Lim r) (b:Int) (x y z:Bool):Lim (UR r b x y z):=⟨h.sn,h.st,h.dn,h.dt,h.hn,h.hm,h.wn,h.wt,h.yn,h.bn,h.bt,h.an,h.fn⟩
theorem Lim.hldK {r:Rc} (h:Lim r) (num b:Int):∀ k,Lim (KI num (Xm b) k r)
 | 0=>h
 | k+1=>by
  have h1:=Lim.hldK h num b k
  rw [Go.Proofs.YtokkbdlofbdljaaGreat.KI]
  split
  ·exact h1
  ·exact h1.hold (LimM.none _ _ _ _ _ _ (zle _) _)
theorem Lim.try_ {r:Rc} (h:Lim r) (b:Int):Lim (If r b):=by
 unfold If
 split
 ·exact h.wait
 ·exact (h.wait.tri b true true true).hldK _ _ _
theorem Lim.ttl {r:Rc} (h:Lim r):Lim (Nk r):=by
 unfold Nk
 split
 ·exact h
 ·exact h.try_ _
theorem No {r:Rc} (hv:TkV r):Lim (tk5 r):=by
 have l4:=hv.vd.lim.tk4
 unfold tk5 Iv
 split
 ·exact l4.prom (show (tk4 r).yn≤10 from hv.vd.yn) _ l4.dn l4.dt
 ·exact l4
structure LdP (r:Rc):Prop where
 aw:AckW r
 nu:1≤r.num∧r.num≤10
 of:0≤r.of∧r.of≤10
theorem Ii {r:Rc} (hv:TkV r) (hl:(tk5 r).ld=true):LdP (tk5 r):=by
 have l4:=hv.vd.lim.tk4
 have a4:AckW (tk4 r):=⟨hv.aw.ix,hv.aw.asc,hv.aw.fin,hv.aw.fasc,hv.aw.k0,hv.aw.k1,hv.aw.dn⟩
 have l5:=No hv
 by_cases c:(tk4 r).tr=true∧(tk4 r).sf.pr=(tk4 r).bal
 ·have e:tk5 r=Je (tk4 r) (tk4 r).num (tk4 r).dk.n (tk4 r).dk.s:=if_pos c
  have hl4:(tk4 r).ld=false:=hv.tl c.1
  rw [e] at hl
  obtain ⟨h1,h2,h3,h4,h5,h6,h7⟩:=UY hl4 hl
  rw [←e] at h1 h2 h3 h4 h5 h6 h7
  exact ⟨⟨fun i hi=>by rw [h1] at hi;exact absurd hi (nlz _),fun i j _ hj=>by rw [h1] at hj;exact absurd hj (nlz _),fun i hi=>by rw [h1] at hi;exact absurd hi (nlz _),fun i hi=>by rw [h1] at hi;exact absurd hi (nlz _),by rw [h2];exact a4.k0,by rw [h2];exact Int.le_trans a4.k1 (Int.ofNat_le.2 h3),l5.dn⟩,by rw [h4];exact hv.nu,by rw [h5];exact hv.of⟩
 ·have e:tk5 r=tk4 r:=if_neg c
  rw [e]
  exact ⟨a4,hv.nu,hv.of⟩
theorem NF {r:Rc} (h:Lim r) (hl:LdP r):Lim (Xc r):=by
 have l1:=h.tws hl.aw hl.nu r.sf.n h.sn
 have e:=Jf r r.sf.n
 have w1:∀ i,i<(Ja r).wn→((Ja r).ws i).size≤100:=l1.wt
 exact Lim.br l1 w1 _ (lrf _)
theorem tik_lim {r:Rc} (hv:TkV r):Lim (Kt r):=by
 have l5:=No hv
 unfold Kt Nm
 refine Lim.ttl ?_
 split
 ·rename_i hl
  exact NF l5 (Ii hv hl)
 ·exact l5
def LimS (M:Nat) (s:Rc):Prop:=s.hn≤M∧∀ i,i<s.hn→LimM (s.hs i)
theorem LimS.snd {M:Nat} {s:Rc} (h:LimS M s) (num:Int) (m:Ms) (hm:LimM m):∀ k,LimS (M+k) (XB num m k s)
 | 0=>h
 | k+1=>by
  have h1:=LimS.snd h num m hm k
  rw [XB]
  split
  ·exact ⟨Nat.le_succ_of_le h1.1,h1.2⟩
  ·refine ⟨Nat.succ_le_succ h1.1,fun i hi=>?_⟩
   show LimM (updF (XB num m k s).hs (XB num m k s).hn (msF (XB num m k s) (toM num m k)) i)
   have hi':i<(XB num m k s).hn+1:=hi
   by_cases e:i=(XB num m k s).hn
   ·rw [e,Zm];exact hm
   ·rw [Zn _ _ e];exact h1.2 i (by omega)
theorem LimS.acp {M:Nat} {s:Rc} (h:LimS M s) {r:Rc} (ho:r.of.toNat≤10) (hd:∀ i,i<r.dk.n→(r.dk.s i).text.size≤100) (a:Nat):∀ j,a+j≤r.dk.n→LimS (M+j*10) (UN r a j s)
 | 0,_=>h
 | j+1,hj=>by
  have h1:=LimS.acp h ho hd a j (by omega)
  have h2:=h1.snd r.num (acM r (a+j)) (LimM.none _ _ _ _ _ _ (hd (a+j) (by omega)) _) r.of.toNat
  rw [UN]
  exact ⟨ltr h2.1 (by omega),h2.2⟩
theorem tkS_lim {r:Rc} (h:Lim r):LimS 400 (tkS r):=⟨h.hn,h.hm⟩
theorem Ob {r:Rc} (hv:TkV r):LimS 1010 (Ke r):=by
 have s0:=tkS_lim hv.vd.lim
 unfold Ke FH
 split
 ·rename_i hl
  have l5:=No hv
  have ldp:=Ii hv hl
  have l2:=NF l5 ldp
  have A3:=NH (Ja (tk5 r)).bal (Ja (tk5 r)).ws (Ja (tk5 r)) (Ja (tk5 r)).wn
  have e:=Jf (tk5 r) (tk5 r).sf.n
  have of1:(Ja (tk5 r)).of=(tk5 r).of:=by show (Xs _ _).of=_;rw [e]
  have of2:(Xc (tk5 r)).of=(Ja (tk5 r)).of:=A3.2.2
  have hof:=ldp.of
  have oz:(Xc (tk5 r)).of.toNat≤10:=by omega
  have aw1:=ldp.aw.tws ldp.nu _ l5.sn
  have k0:0≤(Ja (tk5 r)).dk.kn:=aw1.k0
  have k1:(Ja (tk5 r)).dk.kn≤(Ja (tk5 r)).dk.n:=aw1.k1
  have e1:(Xc (tk5 r)).dk.kn=(Ja (tk5 r)).dk.kn:=A3.1
  have e2:(Ja (tk5 r)).dk.n≤(Xc (tk5 r)).dk.n:=A3.2.1
  have dn:=l2.dn
  have s1:LimS (400+(Xc (tk5 r)).of.toNat) (ED (tk5 r) (tkS r)):=s0.snd (Xc (tk5 r)).num (beM (Xc (tk5 r))) (LimM.none _ _ _ _ _ _ (zle _) _) _
  have s2:=s1.acp oz l2.dt (Xc (tk5 r)).dk.kn.toNat ((Xc (tk5 r)).dk.n-(Xc (tk5 r)).dk.kn.toNat) (by omega)
  exact ⟨ltr s2.1 (by omega),s2.2⟩
 ·exact ⟨ltr s0.1 (by omega),s0.2⟩
def Nj (f:Nat→Ms):Nat→Rc→Rc
 | 0,r=>r
 | i+1,r=>Zo (Nj f i r) (f i)
theorem NC (f g:Nat→Ms) (r:Rc):∀ n,(∀ i,i<n→f i=g i)→Nj f n r=Nj g n r
 | 0,_=>rfl
 | n+1,h=>by
  rw [Nj,Nj,NC f g r n (fun i hi=>h i (by omega)),h n (by omega)]
theorem OM (num:Int) (m:Ms) (f0:Nat→Ms) (r:Rc):∀ k,Nj (YE num m k (0,f0)).2 (YE num m k (0,f0)).1 r=KI num m k r
 | 0=>rfl
 | k+1=>by
  have ih:=OM num m f0 r k
  rw [KI]
  by_cases e:(k:Int)+1=num
  ·have e2:YE num m (k+1) (0,f0)=YE num m k (0,f0):=if_pos e
   rw [e2,if_pos e]
   exact ih
  ·have e2:YE num m (k+1) (0,f0)=((YE num m k (0,f0)).1+1,updF (YE num m k (0,f0)).2 (YE num m k (0,f0)).1 (toM num m k)):=if_neg e
   rw [e2,if_neg e]
   show Zo (Nj (updF (YE num m k (0,f0)).2 (YE num m k (0,f0)).1 (toM num m k)) (YE num m k (0,f0)).1 r) (updF (YE num m k (0,f0)).2 (YE num m k (0,f0)).1 (toM num m k) (YE num m k (0,f0)).1)=_
   rw [Zm,NC _ (YE num m k (0,f0)).2 r _ (fun i hi=>Zn _ _ (by omega)),ih]
theorem nbR_nn (a n o:Int):0≤nbR a n o:=by
 unfold nbR
 split
 ·rename_i h
  split
  ·simp only [Yc,Bool.and_eq_true] at h
   have a1:=Yj h.1.1
   have a2:=Yj h.1.2
   have a3:=Yj h.2
   have h5:=Int.mul_nonneg (Int.ediv_nonneg (show 0≤a by omega) (show 0≤o by omega)) (show 0≤o by omega)
   unfold nbS
   split<;>omega
  ·omega
 ·omega
theorem RcG.safeC {w:World} {r:Rc} {p:RcP} {ad:Option Addr} {c b L:Nat} (h:RcG w r p) (hL:∀ k,rbs p r k→k<L) (o:SlsAt w ad b r.dk.n r.dk.s) (hb:r.dk.n≠0→L≤b∧b<w.1.size):RcG w (Kl r) (Yg p ad c b):=by
 have g:=h.safe hL o hb
 exact ⟨⟨g.at_.o0,g.at_.o1,g.at_.o2,g.at_.o3,g.at_.o4,g.at_.o5,g.at_.o6,g.at_.lt,g.at_.ap⟩,⟨g.rm.dl,g.rm.d0,g.rm.dr,g.rm.hl,g.rm.h0,g.rm.hr⟩⟩
abbrev nhP (p:RcP) (ad:Option Addr):RcP:={ p with A:={ p.A with ha:=ad,hc:=0 } }
theorem noHA_g {w:World} {r:Rc} {p:RcP} (h:RcG w r p) (ad:Option Addr):RcG w (noH r) (nhP p ad):=by
 have g:=h.noH
 exact ⟨⟨g.at_.o0,g.at_.o1,⟨fun h=>absurd h (Nat.lt_irrefl _),fun h=>absurd h (Nat.lt_irrefl _),fun i hi=>absurd hi (nlz _),fun i hi=>absurd hi (nlz _),⟨fun i hi=>absurd hi (nlz _),fun i j hi=>absurd hi (nlz _)⟩⟩,g.at_.o3,g.at_.o4,g.at_.o5,g.at_.o6,g.at_.lt,g.at_.ap⟩,⟨g.rm.dl,g.rm.d0,g.rm.dr,lrf _,fun _=>rfl,fun h=>absurd rfl h⟩⟩
theorem Fd {p:RcP} {r:Rc} {ad:Option Addr} {j k:Nat} (hj:j<7) (h:rb (nhP p ad) (noH r) j k):j≠2∧rb p r j k:=Ne (p:=p) hj h
theorem BdMs.held {w:World} {r:Rc} {p:RcP} (h:RcG w r p) {base:Nat} {v:Value} {c:Nat→Value} (ho:w.ownsRow base 52 8 v r.hn (Zg (r.hn*8) c)) (hc:∀ i,i<r.hn→atMs c i (r.hs i) (p.HA i) (p.HC i)) (hge:∀ k,rbs p r k→base≤k) (hv:∀ q,v.ownBlock=some q→¬rbs p r q):BdMs w base v r.hn r.hs p.HA p.HC p.Hb:=
 have rb2:∀ i,i<r.hn→(r.hs i).n≠0→rbs p r (p.Hb i):=fun i hi h0=>⟨2,by omega,Or.inr ⟨i,hi,h0,rfl⟩⟩
 ⟨⟨c,ho,hc⟩,h.at_.o2.hold,fun i hi h0=>⟨hge _ (rb2 i hi h0),h.at_.lt _ (rb2 i hi h0)⟩,fun i hi h0 e=>hv _ e (rb2 i hi h0),h.at_.o2.ap.2⟩
abbrev wsP (p:RcP) (ad:Option Addr) (cap g:Nat):RcP:={ p with A:={ p.A with wa:=ad,wc:=cap },g3:=g }
theorem Ir {p:RcP} {r:Rc} {ad:Option Addr} {cap g dn:Nat} {ds:Nat→ByteArray} {j k:Nat} (hj:j<7) (h:rb (wsP p ad cap g) (wsR r dn ds) j k):(j=3∧dn≠0∧k=g)∨(j≠3∧rb p r j k):=by
 rcases (show j=0∨j=1∨j=2∨j=3∨j=4∨j=5∨j=6 by omega) with rfl|rfl|rfl|rfl|rfl|rfl|rfl
 ·exact Or.inr ⟨by omega,h⟩
 ·exact Or.inr ⟨by omega,h⟩
 ·exact Or.inr ⟨by omega,h⟩
 ·exact Or.inl ⟨rfl,h⟩
 all_goals exact Or.inr ⟨by omega,h⟩
theorem RcG.wsNew {w:World} {r:Rc} {p:RcP} (h:RcG w r p) {ad:Option Addr} {cap g dn:Nat} {ds:Nat→ByteArray} (ho:StrsOwn w g (g+1) ad dn ds) (hg:dn≠0→g<w.1.size∧¬rbs p r g):RcG w (wsR r dn ds) (wsP p ad cap g):=by
 refine ⟨⟨h.at_.o0,h.at_.o1,h.at_.o2,ho,h.at_.o4,h.at_.o5,h.at_.o6,fun k ⟨j,hj,hk⟩=>?_,fun i j k hi hj h1 h2=>?_⟩,⟨h.rm.dl,h.rm.d0,h.rm.dr,h.rm.hl,h.rm.h0,h.rm.hr⟩⟩
 ·rcases Ir hj hk with ⟨_,h0,rfl⟩|⟨_,h1⟩
  ·exact (hg h0).1
  ·exact h.at_.lt k ⟨j,hj,h1⟩
 ·rcases Ir hi h1 with ⟨e1,h0,rfl⟩|⟨e1,h5⟩<;>rcases Ir hj h2 with ⟨e2,h3,e4⟩|⟨e2,h6⟩
  ·omega
  ·exact absurd ⟨j,hj,h6⟩ (hg h0).2
  ·subst e4
   exact absurd ⟨i,hi,h5⟩ (hg h3).2
  ·exact h.at_.ap i j k hi hj h5 h6
structure StA (w:World) (X:Nat) (r:Rc) (p:RcP) (o:Value) (k:Nat) (x:Nat→Ms) (A:Nat→Option Addr) (C hb:Nat→Nat) (Y:World):Prop where
 bX:Bx Y X (rcC r p.A)
 bZ:Bx Y (w.1.size+1) (rcL 0 0 false).toArray
 g:RcG Y r p
 ne:X≠w.1.size+1
 xs:w.1.size≤X
 nr:∀ q,rbs p r q→q≠X∧q≠w.1.size+1∧o.ownBlock≠some q∧w.1.size≤q
 bd:BdMs Y w.1.size o k x A C hb
 nh:∀ i,i<k→(x i).n≠0→¬rbs p r (hb i)∧hb i≠X∧hb i≠w.1.size+1
 no:∀ q,o.ownBlock=some q→q≠X∧q≠w.1.size+1
 bl:Below w.1.size w Y
theorem StA.step {w:World} {X:Nat} {r r':Rc} {p p':RcP} {o:Value} {k:Nat} {x:Nat→Ms} {A:Nat→Option Addr} {C hb:Nat→Nat} {Y Y':World} (h:StA w X r p o k x A C hb Y) (hf:FrP (fun q=>rbs p r q∨q=X) Y Y') (hX:Bx Y' X (rcC r' p'.A)) (hg:RcG Y' r' p') (hr:∀ q,rbs p' r' q→rbs p r q∨Y.1.size≤q):StA w X r' p' o k x A C hb Y':=by
 have lX:=h.bX.lt
 have lZ:=h.bZ.lt
 have zw:=h.bl.size
 refine ⟨hX,h.bZ.frP hf (fun e=>?_),hg,h.ne,h.xs,fun q hq=>?_,h.bd.fr2 hf (fun q hq e=>?_) (fun i hi h0 e=>?_),fun i hi h0=>⟨fun e=>?_,(h.nh i hi h0).2⟩,h.no,h.bl.trans (hf.below (B:=w.1.size) (fun q hq e=>?_) zw)⟩
 ·rcases e with e|e
  ·exact (h.nr _ e).2.1 rfl
  ·exact h.ne e.symm
 ·rcases hr q hq with e|e
  ·exact h.nr q e
  ·exact ⟨by omega,by omega,fun e2=>by have:=h.bd.lt e2;omega,by omega⟩
 ·rcases e with e|e
  ·exact (h.nr q e).2.2.1 hq
  ·exact (h.no q hq).1 e
 ·rcases e with e|e
  ·exact (h.nh i hi h0).1 e
  ·exact (h.nh i hi h0).2.1 e
 ·rcases hr _ e with e|e
  ·exact (h.nh i hi h0).1 e
  ·have:=(h.bd.hlt i hi h0).2
   omega
 ·rcases e with e|e
  ·have:=(h.nr q e).2.2.2
   omega
  ·have:=h.xs
   omega
theorem StA.grow {w:World} {X:Nat} {r:Rc} {p:RcP} {o:Value} {k:Nat} {x:Nat→Ms} {A:Nat→Option Addr} {C hb:Nat→Nat} {Y Y':World} (h:StA w X r p o k x A C hb Y) (hb':Below Y.1.size Y Y'):StA w X r p o k x A C hb Y':=
 h.step (FrP.of_below hb') (h.bX.below hb' h.bX.lt) (h.g.grow hb') (fun _q hq=>Or.inl hq)
theorem StA.box {w:World} {X:Nat} {r r':Rc} {p p':RcP} {o:Value} {k:Nat} {x:Nat→Ms} {A:Nat→Option Addr} {C hb:Nat→Nat} {Y Y':World} (h:StA w X r p o k x A C hb Y) (hf:FrP (fun q=>q=X) Y Y') (hX:Bx Y' X (rcC r' p'.A)) (hg:RcG Y' r p→RcG Y' r' p') (hr:∀ q,rbs p' r' q→rbs p r q):StA w X r' p' o k x A C hb Y':=
 h.step (hf.mono (fun _q hq=>Or.inr hq)) hX (hg (h.g.fr hf (fun q hq e=>(h.nr q hq).1 e))) (fun q hq=>Or.inl (hr q hq))
theorem StA.call {w:World} {X:Nat} {r r':Rc} {p p':RcP} {o:Value} {k:Nat} {x:Nat→Ms} {A:Nat→Option Addr} {C hb:Nat→Nat} {Y Y1 Y2:World} (h:StA w X r p o k x A C hb Y) (hf:FrP (rbs p r) Y Y1) (hg:RcG Y1 r' p') (hr:∀ q,rbs p' r' q→rbs p r q∨Y.1.size≤q) (hf2:FrP (fun q=>q=X) Y1 Y2) (hX:Bx Y2 X (rcC r' p'.A)):StA w X r' p' o k x A C hb Y2:=by
 have lX:=h.bX.lt
 refine h.step ((hf.mono (fun q hq=>Or.inl hq)).trans (hf2.mono (fun q hq=>Or.inr hq))) hX (hg.fr hf2 (fun q hq e=>?_)) hr
 rcases hr q hq with h1|h1
 ·exact (h.nr q h1).1 e
 ·omega
theorem StA.keepX {w:World} {X:Nat} {r:Rc} {p:RcP} {o:Value} {k:Nat} {x:Nat→Ms} {A:Nat→Option Addr} {C hb:Nat→Nat} {Y Y1:World} (h:StA w X r p o k x A C hb Y) (hf:FrP (rbs p r) Y Y1):Bx Y1 X (rcC r p.A):=h.bX.frP hf (fun e=>(h.nr X e).1 rfl)
theorem rw_strs {w:World} {ad:Option Addr} {g n cap:Nat} {s:Nat→ByteArray} (h:Rw w ad g n cap 1 (fun t=>.string (s t))):StrsOwn w g (g+1) ad n s:=fun i hi=>by
 have h0:0<cap:=ltl (by omega) h.le
 refine ⟨g,0,h.addr h0,lrf _,Nat.lt_succ_self _,?_,(h.room h0).free _⟩
 rw [Nat.zero_add]
 exact h.cell i (by omega)
def SlE (r:Rc):Prop:=∀ i,i<r.dk.n→0<(r.dk.s i).bal∨(r.dk.s i).text.size=0
theorem SlE.slB {r:Rc} {ws:Nat→ByteArray} {n:Nat} (h:SlE r) (hw:∀ j,j<n→0<(ws j).size):SlB r ws n:=fun i hi j hj=>(h i hi).imp id (fun e1 e2=>by
 rw [e2] at e1
 have:=hw j hj
 omega)
structure TkW (r:Rc):Prop where
 sl:SlE r
 ws:∀ j,j<r.wn→0<(r.ws j).size
 bl:r.ld=true∨r.tr=true→0<r.bal
theorem tkW_of {r:Rc} (h:rcB r=true):TkW r:=by
 simp only [rcB,Yw,Bool.and_eq_true] at h
 obtain ⟨h0,h1,h2,h3,h4,h5,h6,h7,h8,h9,h10,_⟩:=h
 refine ⟨fun i hi=>?_,fun j hj=>?_,fun hl=>?_⟩
 ·simp only [dkB,slsB,Bool.and_eq_true,allTo_iff] at h3
  have h:=h3.2.1.2 i hi
  simp only [slB,Bool.and_eq_true,Bool.or_eq_true,decide_eq_true_eq] at h
  rcases h.2.2 with h|h
  ·exact Or.inl h
  ·right
   have e:(r.dk.s i).text.toList=[]:=by simpa using h
   have h9:((r.dk.s i).text.toList==ByteArray.empty.toList)=decide ((r.dk.s i).text=ByteArray.empty):=by rw [Nr]
   rw [e,show ByteArray.empty.toList=[] by first|decide|(simp [ByteArray.toList,ByteArray.toList.loop])|(unfold ByteArray.toList;rw [ByteArray.toList.loop];rfl)] at h9
   have h8:(r.dk.s i).text=ByteArray.empty:=of_decide_eq_true h9.symm
   rw [h8]
   rfl
 ·simp only [ZA,Bool.and_eq_true,allTo_iff] at h5
  have:=h5.2 j hj
  simp only [Xz,Bool.and_eq_true] at this
  have:=Yj this.1
  omega
 ·cases hld:r.ld with
  | true=>
   simp only [Xj,hld,if_true,J4,Km,Bool.and_eq_true] at h10
   have:=Yj h10.1
   omega
  | false=>
   have htr:r.tr=true:=by
    rcases hl with h|h
    ·rw [hld] at h;cases h
    ·exact h
   have h11:(inB r.bal 1 r.dk.pr&&(r.an:Int)==0)=true:=by simpa [Xj,hld,htr,tryB,Km] using h10
   simp only [Bool.and_eq_true] at h11
   have:=Yj h11.1
   omega
theorem SlE.put {r:Rc} (h:SlE r) {k:Nat} {x:Sl} (hx:0<x.bal):SlE (JA r k x):=fun i hi=>by
 show 0<(updF (fun i=>if i<r.dk.n then r.dk.s i else ⟨0,⟨#[]⟩⟩) k x i).bal∨(updF (fun i=>if i<r.dk.n then r.dk.s i else ⟨0,⟨#[]⟩⟩) k x i).text.size=0
 by_cases e:i=k
 ·rw [e,Zm];exact Or.inl hx
 ·rw [Zn _ _ e]
  by_cases e2:i<r.dk.n
  ·rw [if_pos e2];exact h i e2
  ·rw [if_neg e2];exact Or.inr rfl
theorem NV {r:Rc} (h:SlE r) (hb:0<r.bal) (bs:Nat→Sl) (a:Nat):∀ k,SlE (YS r bs a k)
 | 0=>h
 | k+1=>(NV h hb bs a k).put (by
   show 0<(YS r bs a k).bal
   rw [UQ]
   exact hb)
theorem OG (r:Rc) (bs:Nat→Sl) (a:Nat):∀ k,(YS r bs a k).ws=r.ws
 | 0=>rfl
 | k+1=>OG r bs a k
theorem tk5_sl {r:Rc} (hv:TkV r) (hw:TkW r) (hl:(tk5 r).ld=true):0<(tk5 r).bal∧SlB (tk5 r) (tk5 r).ws (tk5 r).wn:=by
 have s4:SlE (tk4 r):=hw.sl
 have w4:∀ j,j<(tk4 r).wn→0<((tk4 r).ws j).size:=IG _ _ (fun a=>0<a.size) _ hw.ws
 by_cases c:(tk4 r).tr=true∧(tk4 r).sf.pr=(tk4 r).bal
 ·have e:tk5 r=Je (tk4 r) (tk4 r).num (tk4 r).dk.n (tk4 r).dk.s:=if_pos c
  have hl4:(tk4 r).ld=false:=hv.tl c.1
  have b4:0<(tk4 r).bal:=hw.bl (Or.inr c.1)
  rw [e] at hl ⊢
  by_cases c2:(tk4 r).of<2*((Zy (tk4 r).yn (tk4 r).ys (tk4 r).num:Nat):Int)
  ·have e2:Je (tk4 r) (tk4 r).num (tk4 r).dk.n (tk4 r).dk.s=JF (ZU (XM (tk4 r) (Zy (tk4 r).yn (tk4 r).ys (tk4 r).num) (ZJ (tk4 r).yn (tk4 r).ys (tk4 r).num)) (max (tk4 r).bn (tk4 r).dk.n) (mgS (tk4 r).bn (tk4 r).bs (tk4 r).dk.n (tk4 r).dk.s)):=if_pos c2
   rw [e2]
   unfold JF
   refine ⟨by rw [UQ];exact b4,SlE.slB (NV (r:=leadS (ZU (XM (tk4 r) (Zy (tk4 r).yn (tk4 r).ys (tk4 r).num) (ZJ (tk4 r).yn (tk4 r).ys (tk4 r).num)) (max (tk4 r).bn (tk4 r).dk.n) (mgS (tk4 r).bn (tk4 r).bs (tk4 r).dk.n (tk4 r).dk.s))) s4 b4 _ _ _) (fun j hj=>?_)⟩
   rw [OG]
   rw [(UL _ _ _ _).2.2.2.2.2.2] at hj
   exact w4 j hj
  ·have e2:Je (tk4 r) (tk4 r).num (tk4 r).dk.n (tk4 r).dk.s=(ZU (XM (tk4 r) (Zy (tk4 r).yn (tk4 r).ys (tk4 r).num) (ZJ (tk4 r).yn (tk4 r).ys (tk4 r).num)) (max (tk4 r).bn (tk4 r).dk.n) (mgS (tk4 r).bn (tk4 r).bs (tk4 r).dk.n (tk4 r).dk.s)):=if_neg c2
   rw [e2] at hl
   exact absurd (hl4.symm.trans (show (tk4 r).ld=true from hl)) (by simp)
 ·have e:tk5 r=tk4 r:=if_neg c
  rw [e] at hl ⊢
  exact ⟨hw.bl (Or.inl hl),s4.slB w4⟩
end Go.Proofs.YtokkbdlofbdljaaGreat
