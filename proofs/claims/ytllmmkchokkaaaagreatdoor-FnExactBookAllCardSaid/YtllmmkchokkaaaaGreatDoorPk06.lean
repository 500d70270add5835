import Derived.Test.YtllmmkchokkaaaaGreatDoorPk03
import Derived.Test.YtllmmkchokkaaaaGreatDoorPk05
import Derived.Laws.IdiomCopy
import Derived.Laws.CopyOwn
import Derived.Sort.Row
import Derived.Deep.RegionWith
set_option maxRecDepth 100000
set_option maxHeartbeats 4000000
namespace Go.Proofs.YtllmmkchokkaaaaGreatDoor
open Go.RowKit
def atOb (c:Nat→Value) (i:Nat) (y:Ob) (A:Option Addr) (C:Nat):Prop:=c (i*7)=.string y.kind∧c (i*7+1)=.string y.name∧c (i*7+2)=.int .i64 y.ver∧c (i*7+3)=.int .i64 y.born∧c (i*7+4)=.string y.text∧c (i*7+5)=.bool y.ending∧c (i*7+6)=.slice A y.hn C
theorem atOb_set {c:Nat→Value} {i:Nat} {y:Ob}{A:Option Addr} {C:Nat} (h:atOb c i y A C) {k o:Nat} (hik:¬i=k) (h1:k*7≤o) (h2:o<k*7+7) (v:Value):atOb (setF c o v) i y A C:=by
 obtain ⟨a0,a1,a2,a3,a4,a5,a6⟩:=h
 exact ⟨(if_neg Za).trans a0,(if_neg Za).trans a1,(if_neg Za).trans a2,(if_neg Za).trans a3,(if_neg Za).trans a4,(if_neg Za).trans a5,(if_neg Za).trans a6⟩
def mkOb (m:Nat) (o:Ob):Ob:=⟨mt m,mt (m+1),(m:Int)+2,(m:Int)+3,mt (m+4),decide (((m:Int)+5) % 3=0),o.hn,fun j=>mt (m+6+j)⟩
def mkObs (k0:Nat) (x:Nat→Ob):Nat→Nat|0=>k0|n+1=>mkObs k0 x n+6+(x n).hn
theorem mkObs_mono (k0:Nat) (x:Nat→Ob) {k n:Nat} (h:k≤n):mkObs k0 x k≤mkObs k0 x n:=by
 induction n with
 | zero=>
   have:k=0:=Za
   subst this;exact Nat.le_refl _
 | succ m ih=>
   rcases Nat.lt_or_ge m k with h1|h1
   ·have:k=m+1:=Za
    subst this;exact Nat.le_refl _
   ·exact Nat.le_trans (ih h1) (by simp only [mkObs];omega)
theorem mkObs_pos (k0:Nat) (x:Nat→Ob) (k:Nat) (h:1≤k0):1≤mkObs k0 x k:=Nat.le_trans h (mkObs_mono k0 x (Nat.zero_le k))
def ykOb (k0:Nat) (x:Nat→Ob) (k i:Nat):Ob:=if i<k then mkOb (mkObs k0 x i) (x i) else x i
theorem ykOb_zero (k0:Nat) (x:Nat→Ob):ykOb k0 x 0=x:=funext fun i=>if_neg (Nat.not_lt_zero i)
theorem ykOb_lt {k0:Nat} {x:Nat→Ob} {k i:Nat} (h:i<k):ykOb k0 x k i=mkOb (mkObs k0 x i) (x i):=if_pos h
theorem ykOb_ge {k0:Nat} {x:Nat→Ob} {k i:Nat} (h:k≤i):ykOb k0 x k i=x i:=if_neg Za
theorem apP067 {P:Prop} (h:P:=by
  by_cases h1:i<k
  ·rw [if_pos h1,if_pos Za]
  ·rw [if_neg h1,if_neg Za]):P:=h
theorem ykOb_ne {k0:Nat} {x:Nat→Ob} {k i:Nat} (h:¬i=k):ykOb k0 x (k+1) i=ykOb k0 x k i:=by
 unfold ykOb
 exact apP067
theorem ykOb_hn (k0:Nat) (x:Nat→Ob) (k i:Nat):(ykOb k0 x k i).hn=(x i).hn:=by unfold ykOb;split<;>rfl
structure ObsAt (w:World) (ad:Option Addr) (g n:Nat) (x:Nat→Ob) (A:Nat→Option Addr) (C:Nat→Nat) (hb:Nat→Nat):Prop where
 addr:0<n→ad=some ⟨g,0,none⟩
 row:0<n→∃ c,RowF w g (n*7) c∧∀ i,i<n→atOb c i (x i) (A i) (C i)
 hold:∀ i,i<n→StrsOwn w (hb i) (hb i+1) (A i) (x i).hn (x i).hs
 hlt:∀ i,i<n→(x i).hn≠0→hb i<w.1.size
 ap:ApartH g n (fun i=>(x i).hn) hb
theorem ObsAt.fr {w w':World} {ad:Option Addr} {g n:Nat} {x:Nat→Ob} {A:Nat→Option Addr} {C:Nat→Nat} {hb:Nat→Nat} {P:Nat→Prop} (h:ObsAt w ad g n x A C hb) (hf:FrP P w w') (hp:∀ k,blkH g n (fun i=>(x i).hn) hb k→¬P k):ObsAt w' ad g n x A C hb:=
 ⟨h.addr,fun h0=>by obtain ⟨c,r,e⟩:=h.row h0;exact ⟨c,r.fr hf (hp g (Or.inl ⟨h0,rfl⟩)),e⟩,fun i hi=>(h.hold i hi).frP hf (fun h0=>⟨hp (hb i) (Or.inr ⟨i,hi,h0,rfl⟩),h.hlt i hi h0⟩),fun i hi h0=>Nat.lt_of_lt_of_le (h.hlt i hi h0) hf.size,h.ap⟩
theorem ObsAt.grow {w w':World} {ad:Option Addr} {g n:Nat} {x:Nat→Ob} {A:Nat→Option Addr} {C:Nat→Nat} {hb:Nat→Nat} (h:ObsAt w ad g n x A C hb) (hf:Below w.1.size w w'):ObsAt w' ad g n x A C hb:=h.fr (FrP.of_below (P:=fun _=>False) hf) (fun _ _ h=>h)
theorem apP065 {P:Prop} (h:P:=by
  have:k=n:=Za
  subst this
  have HO:=hid ho
  clear ho
  go_wp2
  go_ret
  exact ⟨rfl,HO.out,hfr⟩):P:=h
theorem apP069 {P:Prop} (h:P:=by
  go_wp2
  go_roundw
  case rel=>exact ⟨k+1,Za,by go_num,by rw [HM.out];apply congrArg;omega,HF9.out,HO9'.out⟩
  case measure=>simp [intOf];omega):P:=h
theorem markObs_own (ad:Option Addr) (g n:Nat) (x:Nat→Ob) (A:Nat→Option Addr) (C:Nat→Nat) (hb:Nat→Nat) (cap k0:Nat) (w:World) (hl:(n:Int)≤1048576) (hk1:1≤(k0:Int)) (hk2:(mkObs k0 x n:Int)≤1073741824) (hc:ObsAt w ad g n x A C hb) :
  Calls Tryz.prog 48 #[.slice ad n cap,.int .i64 k0] w fun e w'=>e=.returned (.int .i64 (mkObs k0 x n))∧ObsAt w' ad g n (ykOb k0 x n) A C hb∧FrP (blkH g n (fun i=>(x i).hn) hb) w w':=by
 go_enter Tryz.func48,Tryz.ntmps48
 go_wp2
 go_loopw [1,5] (fun t i wr=>∃ k:Nat,k≤n∧i=.int .i64 k∧t=.int .i64 (mkObs k0 x k)∧FrP (blkH g n (fun i=>(x i).hn) hb) w wr∧ObsAt wr ad g n (ykOb k0 x k) A C hb) (fun _ i _=>n-(intOf i).toNat)
 case atStart=>exact ⟨0,Nat.zero_le _,rfl,rfl,FrP.refl _ _,by rw [ykOb_zero];exact hc⟩
 case round=>
  obtain ⟨k,hk,rfl,rfl,hfr,ho⟩:=hrel
  clear hc
  by_cases hkn:k<n
  ·have hmo:=mkObs_mono k0 x (k:=k+1) (n:=n) Za
   have hm1:=mkObs_pos k0 x k Za
   have hms:mkObs k0 x (k+1)=mkObs k0 x k+6+(x k).hn:=rfl
   have HM:Hid (mkObs k0 x (k+1)=mkObs k0 x k+6+(x k).hn):=hms
   have hm:mkObs k0 x k+6+(x k).hn≤1073741824:=Za
   clear hmo hms
   obtain ⟨m,hme⟩:∃ m,mkObs k0 x k=m:=⟨_,rfl⟩
   rw [hme] at hm1 hm HM ⊢
   have HME:=hid hme
   clear hme
   obtain rfl:=ho.addr Za
   obtain ⟨c,r0,hat⟩:=ho.row Za
   have HO:=hid ho
   have HAT:=hid hat
   have hfr':=hid hfr
   have h6:c (k*7+6)=.slice (A k) (x k).hn (C k):=by have:=(hat k hkn).2.2.2.2.2.2;rw [ykOb_ge (Nat.le_refl k)] at this;exact this
   have H6:=hid h6
   clear h6
   clear ho hat hfr
   have f0:FrP (fun q=>q=g) wr wr:=FrP.refl _ _
   go_wp2_with fail
   refine (markText_at _ (m+0) Za _ Za Za).mono ?_
   rintro e w1 ⟨rfl,b1⟩
   have r1:=r0.below b1 Zav
   have f1:=f0.trans (FrP.of_below b1)
   clear r0 f0 b1
   have q0:=r1.cell (k*7) Za
   have qf1:=r1.free
   go_wp2_with fail
   refine (markText_at _ (m+1) Za _ Za Za).mono ?_
   rintro e w2 ⟨rfl,b2⟩
   have r2:=(r1.set (o:=k*7) Za _).below b2 Zaw
   have f2:=(f1.setCell (p:=⟨g,k*7,none⟩) rfl _).trans (FrP.of_below b2)
   clear q0 qf1 r1 f1 b2
   have q1:=r2.cell (k*7+1) Za
   have q2:=r2.cell (k*7+2) Za
   have q3:=r2.cell (k*7+3) Za
   have qf2:=r2.free
   go_wp2_with fail
   refine (markText_at _ (m+4) Za _ Za Za).mono ?_
   rintro e w3 ⟨rfl,b3⟩
   have r3:=(((r2.set (o:=k*7+1) Za _).set (o:=k*7+2) Za _).set (o:=k*7+3) Za _).below b3 Zbp
   have f3:=(((f2.setCell (p:=⟨g,k*7+1,none⟩) rfl _).setCell (p:=⟨g,k*7+2,none⟩) rfl _).setCell (p:=⟨g,k*7+3,none⟩) rfl _).trans (FrP.of_below b3)
   clear q1 q2 q3 qf2 r2 f2 b3
   have q4:=r3.cell (k*7+4) Za
   have q5:=r3.cell (k*7+5) Za
   have qf3:=r3.free
   have q6:w3.cell? ⟨g,k*7+6,none⟩=some (.slice (A k) (x k).hn (C k)):=(r3.cell (k*7+6) Za).trans (congrArg some (Eq.trans (by simp [setF]) H6.out))
   have hkh:=HO.out.hlt k hkn
   rw [ykOb_hn] at hkh
   have hkne:=HO.out.ap.ne k hkn
   have hho:=HO.out.hold k hkn
   rw [ykOb_ge (Nat.le_refl k)] at hho
   have HKH:=hid hkh
   have HKN:Hid ((x k).hn≠0→¬hb k=g):=fun h0=>hkne (by show (ykOb k0 x k k).hn≠0;rw [ykOb_hn];exact h0)
   have HHO:=hid hho
   have hz:=f3.size
   clear hkh hkne hho
   go_wp2_with fail
   refine (markStrs_own (x k).hn (x k).hs (A k) (C k) _ (m+6) Za _ (hb k) (fun h0=>(by have:=HKH.out h0;simp only [World.size_setCell];omega)) Za Za Za (HHO.out.frP ((f3.setCell (p:=⟨g,k*7+4,none⟩) rfl _).setCell (p:=⟨g,k*7+5,none⟩) rfl _) (fun h0=>⟨HKN.out h0,HKH.out h0⟩))).mono ?_
   rintro e w9 ⟨rfl,hs9,f9⟩
   have r9:=((r3.set (o:=k*7+4) Za _).set (o:=k*7+5) Za _).fr f9 (fun h0=>HKN.out h0.1 h0.2.symm)
   have F9:=((f3.setCell (p:=⟨g,k*7+4,none⟩) rfl _).setCell (p:=⟨g,k*7+5,none⟩) rfl _).link f9
   have HO9:ObsAt w9 (some ⟨g,0,none⟩) g n (ykOb k0 x (k+1)) A C hb:=by
    refine ⟨fun _=>rfl,fun _=>⟨_,r9,fun i hi=>?_⟩,fun i hi=>?_,fun i hi h0=>?_,?_⟩
    ·by_cases e:i=k
     ·subst e
      rw [ykOb_lt (Nat.lt_succ_self i),HME.out]
      refine ⟨?_,?_,?_,?_,?_,?_,?_⟩
      all_goals first|(simp [setF,mkOb];done)|(simp [setF,mkOb];omega)|(simp [setF,mkOb];exact rem3 Za)|(exact (by simp [setF])▸H6.out)|(simp [setF,mkOb,H6.out];done)
     ·rw [ykOb_ne e]
      exact (atOb_set (atOb_set (atOb_set (atOb_set (atOb_set (atOb_set (HAT.out i hi) e (k:=k) Za Za _) e (k:=k) Za Za _) e (k:=k) Za Za _) e (k:=k) Za Za _) e (k:=k) Za Za _) e (k:=k) Za Za _)
    ·by_cases e:i=k
     ·subst e
      rw [ykOb_lt (Nat.lt_succ_self i),HME.out]
      exact hs9
     ·rw [ykOb_ne e]
      have hn0:=ykOb_hn k0 x k i
      refine ((HO.out.hold i hi).frP F9 (fun h0=>⟨HO.out.ap.ne i hi h0,HO.out.hlt i hi h0⟩)).frP f9 (fun h0=>⟨fun h1=>e (HO.out.ap.inj i k hi hkn h0 (by show (ykOb k0 x k k).hn≠0;rw [ykOb_hn];exact h1.1) h1.2),Nat.lt_of_lt_of_le (HO.out.hlt i hi h0) F9.size⟩)
    ·rw [ykOb_hn] at h0
     exact Nat.lt_of_lt_of_le (HO.out.hlt i hi (by rw [ykOb_hn];exact h0)) (Nat.le_trans F9.size f9.size)
    ·exact HO.out.ap.congr (fun i=>by show (ykOb k0 x k i).hn=(ykOb k0 x (k+1) i).hn;rw [ykOb_hn,ykOb_hn])
   have HO9':=hid HO9
   have HF9:=hid (hfr'.out.trans ((F9.mono (fun q hq=>Or.inl ⟨Za,hq⟩)).trans (f9.mono (fun q hq=>Or.inr ⟨k,hkn,hq.1,hq.2⟩))))
   clear q4 q5 q6 qf3 HO9 r9 f9 F9 hs9 r3 f3
   exact apP069
  ·exact apP065
theorem heldObs_own (ad:Option Addr) (g n:Nat) (x:Nat→Ob) (A:Nat→Option Addr) (C:Nat→Nat) (hb:Nat→Nat) (cap k0:Nat) (w:World) (hl:(n:Int)≤1048576) (hk1:1≤(k0:Int)) (hk2:(mkObs k0 x n:Int)≤1073741824) (hc:ObsAt w ad g n (ykOb k0 x n) A C hb) :
  Calls Tryz.prog 64 #[.slice ad n cap,.int .i64 k0] w fun e w'=>e=.returned (.int .i64 (mkObs k0 x n))∧Below w.1.size w w':=by
 have HO:=hid hc
 clear hc
 go_enter Tryz.func64,Tryz.ntmps64
 go_wp2
 go_loopw [1,5] (fun t i wr=>∃ k:Nat,k≤n∧i=.int .i64 k∧t=.int .i64 (mkObs k0 x k)∧Below w.1.size w wr) (fun _ i _=>n-(intOf i).toNat)
 case atStart=>exact ⟨0,Nat.zero_le _,rfl,rfl,Below.refl _ _⟩
 case round=>
  obtain ⟨k,hk,rfl,rfl,b0⟩:=hrel
  by_cases hkn:k<n
  ·have hmo:=mkObs_mono k0 x (k:=k+1) (n:=n) Za
   have hm1:=mkObs_pos k0 x k Za
   have hms:mkObs k0 x (k+1)=mkObs k0 x k+6+(x k).hn:=rfl
   have HM:Hid (mkObs k0 x (k+1)=mkObs k0 x k+6+(x k).hn):=hms
   have hm:mkObs k0 x k+6+(x k).hn≤1073741824:=Za
   clear hmo hms
   have hadr:=HO.out.addr Za
   obtain ⟨c,rr,hat⟩:=HO.out.row Za
   have hak:=hat k hkn
   rw [ykOb_lt hkn] at hak
   have hho:=HO.out.hold k hkn
   have hhl:=HO.out.hlt k hkn
   rw [ykOb_lt hkn] at hho hhl
   obtain ⟨m,hme⟩:∃ m,mkObs k0 x k=m:=⟨_,rfl⟩
   rw [hme] at hm1 hm HM hak hho hhl ⊢
   clear hme hat
   subst hadr
   obtain ⟨a0,a1,a2,a3,a4,a5,a6⟩:=hak
   replace a0:c (k*7)=.string (mt m):=a0
   replace a1:c (k*7+1)=.string (mt (m+1)):=a1
   replace a2:c (k*7+2)=.int .i64 ((m:Int)+1+1):=a2.trans Zbb
   replace a3:c (k*7+3)=.int .i64 ((m:Int)+1+1+1):=a3.trans Zbb
   replace a4:c (k*7+4)=.string (mt (m+4)):=a4
   replace a5:c (k*7+5)=.bool (((m:Int)+1+1+1+1+1) % 3==0):=a5.trans Zbb
   replace a6:c (k*7+6)=.slice (A k) (x k).hn (C k):=a6
   have A0:=hid a0
   have A1:=hid a1
   have A2:=hid a2
   have A3:=hid a3
   have A4:=hid a4
   have A5:=hid a5
   have A6:=hid a6
   have RR:=hid rr
   have hgw:=rr.lt
   clear rr a0 a1 a2 a3 a4 a5 a6
   have HHO:Hid (StrsOwn w (hb k) (hb k+1) (A k) (x k).hn (fun i=>mt (m+6+i))):=hho
   have HHL:Hid ((x k).hn≠0→hb k<w.1.size):=hhl
   clear hho hhl
   have z1:=b0.size
   have qq0:=((RR.out.below b0 hgw).cell (k*7) Za).trans (congrArg some A0.out)
   have y0:=subcell qq0 (by show g<_;omega)
   have hne1:Nonempty (GW wr):=⟨⟨_,Below.refl _ _⟩⟩
   go_wp2
   refine wp_region_grow Zf Zf ?_
   repeat (go_big_quiet_step ((go_at_call 107;go_must (exact grow_of (markText_at _ (m+0) Za _ Za Za)))))
   refine wpQuiet_nil ?_
   rintro w1 ⟨u,hu⟩
   have c1:Below wr.1.size wr w1:=hu▸u.prop
   have b1:=b0.trans (c1.mono Za)
   clear hu u hne1 qq0 y0 c1
   have z2:=b1.size
   have qq1:=((RR.out.below b1 hgw).cell (k*7+1) Za).trans (congrArg some A1.out)
   have y1:=subcell qq1 (by show g<_;omega)
   have hne2:Nonempty (GW w1):=⟨⟨_,Below.refl _ _⟩⟩
   go_wp2
   refine wp_region_grow Zf Zf ?_
   repeat (go_big_quiet_step ((go_at_call 107;go_must (exact grow_of (markText_at _ (m+1) Za _ Za Za)))))
   refine wpQuiet_nil ?_
   rintro w2 ⟨u,hu⟩
   have c2:Below w1.1.size w1 w2:=hu▸u.prop
   have b2:=b1.trans (c2.mono Za)
   clear hu u hne2 qq1 y1 c2
   have q2:=((RR.out.below b2 hgw).cell (k*7+2) Za).trans (congrArg some A2.out)
   have q3:=((RR.out.below b2 hgw).cell (k*7+3) Za).trans (congrArg some A3.out)
   have z3:=b2.size
   have qq4:=((RR.out.below b2 hgw).cell (k*7+4) Za).trans (congrArg some A4.out)
   have y4:=subcell qq4 (by show g<_;omega)
   have hne3:Nonempty (GW w2):=⟨⟨_,Below.refl _ _⟩⟩
   go_wp2
   refine wp_region_grow Zf Zf ?_
   repeat (go_big_quiet_step ((go_at_call 107;go_must (exact grow_of (markText_at _ (m+4) Za _ Za Za)))))
   refine wpQuiet_nil ?_
   rintro w3 ⟨u,hu⟩
   have c3:Below w2.1.size w2 w3:=hu▸u.prop
   have b3:=b2.trans (c3.mono Za)
   clear hu u hne3 qq4 y4 c3 q2 q3
   have q5:=((RR.out.below b3 hgw).cell (k*7+5) Za).trans (congrArg some A5.out)
   have q6:=((RR.out.below b3 hgw).cell (k*7+6) Za).trans (congrArg some A6.out)
   have zl:=b3.size
   go_wp2_with fail
   refine (heldStrs_own (x k).hn (A k) (C k) _ (m+6) Za _ (hb k) (fun h0=>(by have:=HHL.out h0;omega)) Za Za Za (HHO.out.frP (FrP.of_below (P:=fun _=>False) b3) (fun h0=>⟨fun h=>h,HHL.out h0⟩))).mono ?_
   rintro e w9 ⟨rfl,c9⟩
   have b9:=b3.trans (c9.mono Za)
   clear q6 q5 c9
   go_wp2
   go_roundw
   case rel=>exact ⟨k+1,Za,by go_num,by rw [HM.out];apply congrArg;omega,b9⟩
   case measure=>simp [intOf];omega
  ·have:k=n:=Za
   subst this
   go_wp2
   go_ret
   exact ⟨rfl,b0⟩
def atCh (c:Nat→Value) (i:Nat) (y:Ch) (A:Option Addr) (C:Nat):Prop:=c (i*9)=.int .i64 y.ver∧c (i*9+1)=.bool y.gone∧c (i*9+2)=.string y.ob.kind∧c (i*9+3)=.string y.ob.name∧c (i*9+4)=.int .i64 y.ob.ver∧c (i*9+5)=.int .i64 y.ob.born∧c (i*9+6)=.string y.ob.text∧c (i*9+7)=.bool y.ob.ending∧c (i*9+8)=.slice A y.ob.hn C
theorem atCh_set {c:Nat→Value} {i:Nat} {y:Ch}{A:Option Addr} {C:Nat} (h:atCh c i y A C) {k o:Nat} (hik:¬i=k) (h1:k*9≤o) (h2:o<k*9+9) (v:Value):atCh (setF c o v) i y A C:=by
 obtain ⟨a0,a1,a2,a3,a4,a5,a6,a7,a8⟩:=h
 exact ⟨(if_neg Za).trans a0,(if_neg Za).trans a1,(if_neg Za).trans a2,(if_neg Za).trans a3,(if_neg Za).trans a4,(if_neg Za).trans a5,(if_neg Za).trans a6,(if_neg Za).trans a7,(if_neg Za).trans a8⟩
def mkCh (m:Nat) (o:Ch):Ch:=⟨m,decide (((m:Int)+1) % 3=0),⟨mt (m+2),mt (m+3),(m:Int)+4,(m:Int)+5,mt (m+6),decide (((m:Int)+7) % 3=0),o.ob.hn,fun j=>mt (m+8+j)⟩⟩
def mkChs (k0:Nat) (x:Nat→Ch):Nat→Nat|0=>k0|n+1=>mkChs k0 x n+8+(x n).ob.hn
theorem mkChs_mono (k0:Nat) (x:Nat→Ch) {k n:Nat} (h:k≤n):mkChs k0 x k≤mkChs k0 x n:=by
 induction n with
 | zero=>
   have:k=0:=Za
   subst this;exact Nat.le_refl _
 | succ m ih=>
   rcases Nat.lt_or_ge m k with h1|h1
   ·have:k=m+1:=Za
    subst this;exact Nat.le_refl _
   ·exact Nat.le_trans (ih h1) (by simp only [mkChs];omega)
theorem mkChs_pos (k0:Nat) (x:Nat→Ch) (k:Nat) (h:1≤k0):1≤mkChs k0 x k:=Nat.le_trans h (mkChs_mono k0 x (Nat.zero_le k))
def ykCh (k0:Nat) (x:Nat→Ch) (k i:Nat):Ch:=if i<k then mkCh (mkChs k0 x i) (x i) else x i
theorem ykCh_zero (k0:Nat) (x:Nat→Ch):ykCh k0 x 0=x:=funext fun i=>if_neg (Nat.not_lt_zero i)
theorem ykCh_lt {k0:Nat} {x:Nat→Ch} {k i:Nat} (h:i<k):ykCh k0 x k i=mkCh (mkChs k0 x i) (x i):=if_pos h
theorem ykCh_ge {k0:Nat} {x:Nat→Ch} {k i:Nat} (h:k≤i):ykCh k0 x k i=x i:=if_neg Za
theorem ykCh_ne {k0:Nat} {x:Nat→Ch} {k i:Nat} (h:¬i=k):ykCh k0 x (k+1) i=ykCh k0 x k i:=by
 unfold ykCh
 exact apP067
theorem ykCh_hn (k0:Nat) (x:Nat→Ch) (k i:Nat):(ykCh k0 x k i).ob.hn=(x i).ob.hn:=by unfold ykCh;split<;>rfl
structure ChsAt (w:World) (ad:Option Addr) (g n:Nat) (x:Nat→Ch) (A:Nat→Option Addr) (C:Nat→Nat) (hb:Nat→Nat):Prop where
 addr:0<n→ad=some ⟨g,0,none⟩
 row:0<n→∃ c,RowF w g (n*9) c∧∀ i,i<n→atCh c i (x i) (A i) (C i)
 hold:∀ i,i<n→StrsOwn w (hb i) (hb i+1) (A i) (x i).ob.hn (x i).ob.hs
 hlt:∀ i,i<n→(x i).ob.hn≠0→hb i<w.1.size
 ap:ApartH g n (fun i=>(x i).ob.hn) hb
theorem ChsAt.fr {w w':World} {ad:Option Addr} {g n:Nat} {x:Nat→Ch} {A:Nat→Option Addr} {C:Nat→Nat} {hb:Nat→Nat} {P:Nat→Prop} (h:ChsAt w ad g n x A C hb) (hf:FrP P w w') (hp:∀ k,blkH g n (fun i=>(x i).ob.hn) hb k→¬P k):ChsAt w' ad g n x A C hb:=
 ⟨h.addr,fun h0=>by obtain ⟨c,r,e⟩:=h.row h0;exact ⟨c,r.fr hf (hp g (Or.inl ⟨h0,rfl⟩)),e⟩,fun i hi=>(h.hold i hi).frP hf (fun h0=>⟨hp (hb i) (Or.inr ⟨i,hi,h0,rfl⟩),h.hlt i hi h0⟩),fun i hi h0=>Nat.lt_of_lt_of_le (h.hlt i hi h0) hf.size,h.ap⟩
theorem ChsAt.grow {w w':World} {ad:Option Addr} {g n:Nat} {x:Nat→Ch} {A:Nat→Option Addr} {C:Nat→Nat} {hb:Nat→Nat} (h:ChsAt w ad g n x A C hb) (hf:Below w.1.size w w'):ChsAt w' ad g n x A C hb:=h.fr (FrP.of_below (P:=fun _=>False) hf) (fun _ _ h=>h)
theorem markChs_own (ad:Option Addr) (g n:Nat) (x:Nat→Ch) (A:Nat→Option Addr) (C:Nat→Nat) (hb:Nat→Nat) (cap k0:Nat) (w:World) (hl:(n:Int)≤1048576) (hk1:1≤(k0:Int)) (hk2:(mkChs k0 x n:Int)≤1073741824) (hc:ChsAt w ad g n x A C hb) :
  Calls Tryz.prog 49 #[.slice ad n cap,.int .i64 k0] w fun e w'=>e=.returned (.int .i64 (mkChs k0 x n))∧ChsAt w' ad g n (ykCh k0 x n) A C hb∧FrP (blkH g n (fun i=>(x i).ob.hn) hb) w w':=by
 go_enter Tryz.func49,Tryz.ntmps49
 go_wp2
 go_loopw [1,5] (fun t i wr=>∃ k:Nat,k≤n∧i=.int .i64 k∧t=.int .i64 (mkChs k0 x k)∧FrP (blkH g n (fun i=>(x i).ob.hn) hb) w wr∧ChsAt wr ad g n (ykCh k0 x k) A C hb) (fun _ i _=>n-(intOf i).toNat)
 case atStart=>exact ⟨0,Nat.zero_le _,rfl,rfl,FrP.refl _ _,by rw [ykCh_zero];exact hc⟩
 case round=>
  obtain ⟨k,hk,rfl,rfl,hfr,ho⟩:=hrel
  clear hc
  by_cases hkn:k<n
  ·have hmo:=mkChs_mono k0 x (k:=k+1) (n:=n) Za
   have hm1:=mkChs_pos k0 x k Za
   have hms:mkChs k0 x (k+1)=mkChs k0 x k+8+(x k).ob.hn:=rfl
   have HM:Hid (mkChs k0 x (k+1)=mkChs k0 x k+8+(x k).ob.hn):=hms
   have hm:mkChs k0 x k+8+(x k).ob.hn≤1073741824:=Za
   clear hmo hms
   obtain ⟨m,hme⟩:∃ m,mkChs k0 x k=m:=⟨_,rfl⟩
   rw [hme] at hm1 hm HM ⊢
   have HME:=hid hme
   clear hme
   obtain rfl:=ho.addr Za
   obtain ⟨c,r0,hat⟩:=ho.row Za
   have HO:=hid ho
   have HAT:=hid hat
   have hfr':=hid hfr
   have h6:c (k*9+8)=.slice (A k) (x k).ob.hn (C k):=by have:=(hat k hkn).2.2.2.2.2.2.2.2;rw [ykCh_ge (Nat.le_refl k)] at this;exact this
   have H6:=hid h6
   clear h6
   clear ho hat hfr
   have f0:FrP (fun q=>q=g) wr wr:=FrP.refl _ _
   have q0:=r0.cell (k*9) Za
   have q1:=r0.cell (k*9+1) Za
   have qf0:=r0.free
   go_wp2_with fail
   refine (markText_at _ (m+2) Za _ Za Za).mono ?_
   rintro e w1 ⟨rfl,b1⟩
   have r1:=((r0.set (o:=k*9) Za _).set (o:=k*9+1) Za _).below b1 Zav
   have f1:=((f0.setCell (p:=⟨g,k*9,none⟩) rfl _).setCell (p:=⟨g,k*9+1,none⟩) rfl _).trans (FrP.of_below b1)
   clear q0 q1 qf0 r0 f0 b1
   have q2:=r1.cell (k*9+2) Za
   have qf1:=r1.free
   go_wp2_with fail
   refine (markText_at _ (m+3) Za _ Za Za).mono ?_
   rintro e w2 ⟨rfl,b2⟩
   have r2:=(r1.set (o:=k*9+2) Za _).below b2 Zaw
   have f2:=(f1.setCell (p:=⟨g,k*9+2,none⟩) rfl _).trans (FrP.of_below b2)
   clear q2 qf1 r1 f1 b2
   have q3:=r2.cell (k*9+3) Za
   have q4:=r2.cell (k*9+4) Za
   have q5:=r2.cell (k*9+5) Za
   have qf2:=r2.free
   go_wp2_with fail
   refine (markText_at _ (m+6) Za _ Za Za).mono ?_
   rintro e w3 ⟨rfl,b3⟩
   have r3:=(((r2.set (o:=k*9+3) Za _).set (o:=k*9+4) Za _).set (o:=k*9+5) Za _).below b3 Zbp
   have f3:=(((f2.setCell (p:=⟨g,k*9+3,none⟩) rfl _).setCell (p:=⟨g,k*9+4,none⟩) rfl _).setCell (p:=⟨g,k*9+5,none⟩) rfl _).trans (FrP.of_below b3)
   clear q3 q4 q5 qf2 r2 f2 b3
   have q6:=r3.cell (k*9+6) Za
   have q7:=r3.cell (k*9+7) Za
   have qf3:=r3.free
   have q8:w3.cell? ⟨g,k*9+8,none⟩=some (.slice (A k) (x k).ob.hn (C k)):=(r3.cell (k*9+8) Za).trans (congrArg some (Eq.trans (by simp [setF]) H6.out))
   have hkh:=HO.out.hlt k hkn
   rw [ykCh_hn] at hkh
   have hkne:=HO.out.ap.ne k hkn
   have hho:=HO.out.hold k hkn
   rw [ykCh_ge (Nat.le_refl k)] at hho
   have HKH:=hid hkh
   have HKN:Hid ((x k).ob.hn≠0→¬hb k=g):=fun h0=>hkne (by show (ykCh k0 x k k).ob.hn≠0;rw [ykCh_hn];exact h0)
   have HHO:=hid hho
   have hz:=f3.size
   clear hkh hkne hho
   go_wp2_with fail
   refine (markStrs_own (x k).ob.hn (x k).ob.hs (A k) (C k) _ (m+8) Za _ (hb k) (fun h0=>(by have:=HKH.out h0;simp only [World.size_setCell];omega)) Za Za Za (HHO.out.frP ((f3.setCell (p:=⟨g,k*9+6,none⟩) rfl _).setCell (p:=⟨g,k*9+7,none⟩) rfl _) (fun h0=>⟨HKN.out h0,HKH.out h0⟩))).mono ?_
   rintro e w9 ⟨rfl,hs9,f9⟩
   have r9:=((r3.set (o:=k*9+6) Za _).set (o:=k*9+7) Za _).fr f9 (fun h0=>HKN.out h0.1 h0.2.symm)
   have F9:=((f3.setCell (p:=⟨g,k*9+6,none⟩) rfl _).setCell (p:=⟨g,k*9+7,none⟩) rfl _).link f9
   have HO9:ChsAt w9 (some ⟨g,0,none⟩) g n (ykCh k0 x (k+1)) A C hb:=by
    refine ⟨fun _=>rfl,fun _=>⟨_,r9,fun i hi=>?_⟩,fun i hi=>?_,fun i hi h0=>?_,?_⟩
    ·by_cases e:i=k
     ·subst e
      rw [ykCh_lt (Nat.lt_succ_self i),HME.out]
      refine ⟨?_,?_,?_,?_,?_,?_,?_,?_,?_⟩
      all_goals first|(simp [setF,mkCh];done)|(simp [setF,mkCh];omega)|(simp [setF,mkCh];exact rem3 Za)|(exact (by simp [setF])▸H6.out)|(simp [setF,mkCh,H6.out];done)
     ·rw [ykCh_ne e]
      exact (atCh_set (atCh_set (atCh_set (atCh_set (atCh_set (atCh_set (atCh_set (atCh_set (HAT.out i hi) e (k:=k) Za Za _) e (k:=k) Za Za _) e (k:=k) Za Za _) e (k:=k) Za Za _) e (k:=k) Za Za _) e (k:=k) Za Za _) e (k:=k) Za Za _) e (k:=k) Za Za _)
    ·by_cases e:i=k
     ·subst e
      rw [ykCh_lt (Nat.lt_succ_self i),HME.out]
      exact hs9
     ·rw [ykCh_ne e]
      have hn0:=ykCh_hn k0 x k i
      refine ((HO.out.hold i hi).frP F9 (fun h0=>⟨HO.out.ap.ne i hi h0,HO.out.hlt i hi h0⟩)).frP f9 (fun h0=>⟨fun h1=>e (HO.out.ap.inj i k hi hkn h0 (by show (ykCh k0 x k k).ob.hn≠0;rw [ykCh_hn];exact h1.1) h1.2),Nat.lt_of_lt_of_le (HO.out.hlt i hi h0) F9.size⟩)
    ·rw [ykCh_hn] at h0
     exact Nat.lt_of_lt_of_le (HO.out.hlt i hi (by rw [ykCh_hn];exact h0)) (Nat.le_trans F9.size f9.size)
    ·exact HO.out.ap.congr (fun i=>by show (ykCh k0 x k i).ob.hn=(ykCh k0 x (k+1) i).ob.hn;rw [ykCh_hn,ykCh_hn])
   have HO9':=hid HO9
   have HF9:=hid (hfr'.out.trans ((F9.mono (fun q hq=>Or.inl ⟨Za,hq⟩)).trans (f9.mono (fun q hq=>Or.inr ⟨k,hkn,hq.1,hq.2⟩))))
   clear q6 q7 q8 qf3 HO9 r9 f9 F9 hs9 r3 f3
   exact apP069
  ·exact apP065
theorem heldChs_own (ad:Option Addr) (g n:Nat) (x:Nat→Ch) (A:Nat→Option Addr) (C:Nat→Nat) (hb:Nat→Nat) (cap k0:Nat) (w:World) (hl:(n:Int)≤1048576) (hk1:1≤(k0:Int)) (hk2:(mkChs k0 x n:Int)≤1073741824) (hc:ChsAt w ad g n (ykCh k0 x n) A C hb) :
  Calls Tryz.prog 65 #[.slice ad n cap,.int .i64 k0] w fun e w'=>e=.returned (.int .i64 (mkChs k0 x n))∧Below w.1.size w w':=by
 have HO:=hid hc
 clear hc
 go_enter Tryz.func65,Tryz.ntmps65
 go_wp2
 go_loopw [1,5] (fun t i wr=>∃ k:Nat,k≤n∧i=.int .i64 k∧t=.int .i64 (mkChs k0 x k)∧Below w.1.size w wr) (fun _ i _=>n-(intOf i).toNat)
 case atStart=>exact ⟨0,Nat.zero_le _,rfl,rfl,Below.refl _ _⟩
 case round=>
  obtain ⟨k,hk,rfl,rfl,b0⟩:=hrel
  by_cases hkn:k<n
  ·have hmo:=mkChs_mono k0 x (k:=k+1) (n:=n) Za
   have hm1:=mkChs_pos k0 x k Za
   have hms:mkChs k0 x (k+1)=mkChs k0 x k+8+(x k).ob.hn:=rfl
   have HM:Hid (mkChs k0 x (k+1)=mkChs k0 x k+8+(x k).ob.hn):=hms
   have hm:mkChs k0 x k+8+(x k).ob.hn≤1073741824:=Za
   clear hmo hms
   have hadr:=HO.out.addr Za
   obtain ⟨c,rr,hat⟩:=HO.out.row Za
   have hak:=hat k hkn
   rw [ykCh_lt hkn] at hak
   have hho:=HO.out.hold k hkn
   have hhl:=HO.out.hlt k hkn
   rw [ykCh_lt hkn] at hho hhl
   obtain ⟨m,hme⟩:∃ m,mkChs k0 x k=m:=⟨_,rfl⟩
   rw [hme] at hm1 hm HM hak hho hhl ⊢
   clear hme hat
   subst hadr
   obtain ⟨a0,a1,a2,a3,a4,a5,a6,a7,a8⟩:=hak
   replace a0:c (k*9)=.int .i64 ((m:Int)):=a0.trans Zah
   replace a1:c (k*9+1)=.bool (((m:Int)+1) % 3==0):=a1.trans Zah
   replace a2:c (k*9+2)=.string (mt (m+2)):=a2
   replace a3:c (k*9+3)=.string (mt (m+3)):=a3
   replace a4:c (k*9+4)=.int .i64 ((m:Int)+1+1+1+1):=a4.trans Zah
   replace a5:c (k*9+5)=.int .i64 ((m:Int)+1+1+1+1+1):=a5.trans Zah
   replace a6:c (k*9+6)=.string (mt (m+6)):=a6
   replace a7:c (k*9+7)=.bool (((m:Int)+1+1+1+1+1+1+1) % 3==0):=a7.trans Zah
   replace a8:c (k*9+8)=.slice (A k) (x k).ob.hn (C k):=a8
   have A0:=hid a0
   have A1:=hid a1
   have A2:=hid a2
   have A3:=hid a3
   have A4:=hid a4
   have A5:=hid a5
   have A6:=hid a6
   have A7:=hid a7
   have A8:=hid a8
   have RR:=hid rr
   have hgw:=rr.lt
   clear rr a0 a1 a2 a3 a4 a5 a6 a7 a8
   have HHO:Hid (StrsOwn w (hb k) (hb k+1) (A k) (x k).ob.hn (fun i=>mt (m+8+i))):=hho
   have HHL:Hid ((x k).ob.hn≠0→hb k<w.1.size):=hhl
   clear hho hhl
   have q0:=((RR.out.below b0 hgw).cell (k*9) Za).trans (congrArg some A0.out)
   have q1:=((RR.out.below b0 hgw).cell (k*9+1) Za).trans (congrArg some A1.out)
   have z1:=b0.size
   have qq2:=((RR.out.below b0 hgw).cell (k*9+2) Za).trans (congrArg some A2.out)
   have y2:=subcell qq2 (by show g<_;omega)
   have hne1:Nonempty (GW wr):=⟨⟨_,Below.refl _ _⟩⟩
   go_wp2
   refine wp_region_grow Zf Zf ?_
   repeat (go_big_quiet_step ((go_at_call 107;go_must (exact grow_of (markText_at _ (m+2) Za _ Za Za)))))
   refine wpQuiet_nil ?_
   rintro w1 ⟨u,hu⟩
   have c1:Below wr.1.size wr w1:=hu▸u.prop
   have b1:=b0.trans (c1.mono Za)
   clear hu u hne1 qq2 y2 c1 q0 q1
   have z2:=b1.size
   have qq3:=((RR.out.below b1 hgw).cell (k*9+3) Za).trans (congrArg some A3.out)
   have y3:=subcell qq3 (by show g<_;omega)
   have hne2:Nonempty (GW w1):=⟨⟨_,Below.refl _ _⟩⟩
   go_wp2
   refine wp_region_grow Zf Zf ?_
   repeat (go_big_quiet_step ((go_at_call 107;go_must (exact grow_of (markText_at _ (m+3) Za _ Za Za)))))
   refine wpQuiet_nil ?_
   rintro w2 ⟨u,hu⟩
   have c2:Below w1.1.size w1 w2:=hu▸u.prop
   have b2:=b1.trans (c2.mono Za)
   clear hu u hne2 qq3 y3 c2
   have q4:=((RR.out.below b2 hgw).cell (k*9+4) Za).trans (congrArg some A4.out)
   have q5:=((RR.out.below b2 hgw).cell (k*9+5) Za).trans (congrArg some A5.out)
   have z3:=b2.size
   have qq6:=((RR.out.below b2 hgw).cell (k*9+6) Za).trans (congrArg some A6.out)
   have y6:=subcell qq6 (by show g<_;omega)
   have hne3:Nonempty (GW w2):=⟨⟨_,Below.refl _ _⟩⟩
   go_wp2
   refine wp_region_grow Zf Zf ?_
   repeat (go_big_quiet_step ((go_at_call 107;go_must (exact grow_of (markText_at _ (m+6) Za _ Za Za)))))
   refine wpQuiet_nil ?_
   rintro w3 ⟨u,hu⟩
   have c3:Below w2.1.size w2 w3:=hu▸u.prop
   have b3:=b2.trans (c3.mono Za)
   clear hu u hne3 qq6 y6 c3 q4 q5
   have q7:=((RR.out.below b3 hgw).cell (k*9+7) Za).trans (congrArg some A7.out)
   have q8:=((RR.out.below b3 hgw).cell (k*9+8) Za).trans (congrArg some A8.out)
   have zl:=b3.size
   go_wp2_with fail
   refine (heldStrs_own (x k).ob.hn (A k) (C k) _ (m+8) Za _ (hb k) (fun h0=>(by have:=HHL.out h0;omega)) Za Za Za (HHO.out.frP (FrP.of_below (P:=fun _=>False) b3) (fun h0=>⟨fun h=>h,HHL.out h0⟩))).mono ?_
   rintro e w9 ⟨rfl,c9⟩
   have b9:=b3.trans (c9.mono Za)
   clear q8 q7 c9
   go_wp2
   go_roundw
   case rel=>exact ⟨k+1,Za,by go_num,by rw [HM.out];apply congrArg;omega,b9⟩
   case measure=>simp [intOf];omega
  ·have:k=n:=Za
   subst this
   go_wp2
   go_ret
   exact ⟨rfl,b0⟩
def atTi (c:Nat→Value) (i:Nat) (y:Ti):Prop:=c (i*5)=.string y.client∧c (i*5+1)=.int .i64 y.num∧c (i*5+2)=.string y.print∧c (i*5+3)=.int .i64 y.code∧c (i*5+4)=.int .i64 y.ver
theorem atTi_set {c:Nat→Value} {i:Nat} {y:Ti} (h:atTi c i y) {k o:Nat} (hik:¬i=k) (h1:k*5≤o) (h2:o<k*5+5) (v:Value):atTi (setF c o v) i y:=by
 obtain ⟨a0,a1,a2,a3,a4⟩:=h
 exact ⟨(if_neg Za).trans a0,(if_neg Za).trans a1,(if_neg Za).trans a2,(if_neg Za).trans a3,(if_neg Za).trans a4⟩
def mkTi (m:Nat) (_:Ti):Ti:=⟨mt m,(m:Int)+1,mt (m+2),(m:Int)+3,(m:Int)+4⟩
def mkTis (k0:Nat) (x:Nat→Ti):Nat→Nat|0=>k0|n+1=>mkTis k0 x n+5
theorem mkTis_mono (k0:Nat) (x:Nat→Ti) {k n:Nat} (h:k≤n):mkTis k0 x k≤mkTis k0 x n:=by
 induction n with
 | zero=>
   have:k=0:=Za
   subst this;exact Nat.le_refl _
 | succ m ih=>
   rcases Nat.lt_or_ge m k with h1|h1
   ·have:k=m+1:=Za
    subst this;exact Nat.le_refl _
   ·exact Nat.le_trans (ih h1) (by simp only [mkTis];omega)
theorem mkTis_pos (k0:Nat) (x:Nat→Ti) (k:Nat) (h:1≤k0):1≤mkTis k0 x k:=Nat.le_trans h (mkTis_mono k0 x (Nat.zero_le k))
def ykTi (k0:Nat) (x:Nat→Ti) (k i:Nat):Ti:=if i<k then mkTi (mkTis k0 x i) (x i) else x i
theorem ykTi_zero (k0:Nat) (x:Nat→Ti):ykTi k0 x 0=x:=funext fun i=>if_neg (Nat.not_lt_zero i)
theorem ykTi_lt {k0:Nat} {x:Nat→Ti} {k i:Nat} (h:i<k):ykTi k0 x k i=mkTi (mkTis k0 x i) (x i):=if_pos h
theorem ykTi_ne {k0:Nat} {x:Nat→Ti} {k i:Nat} (h:¬i=k):ykTi k0 x (k+1) i=ykTi k0 x k i:=by
 unfold ykTi
 exact apP067
structure TisAt (w:World) (ad:Option Addr) (g n:Nat) (x:Nat→Ti):Prop where
 addr:0<n→ad=some ⟨g,0,none⟩
 row:0<n→∃ c,RowF w g (n*5) c∧∀ i,i<n→atTi c i (x i)
theorem TisAt.fr {w w':World} {ad:Option Addr} {g n:Nat} {x:Nat→Ti} {P:Nat→Prop} (h:TisAt w ad g n x) (hf:FrP P w w') (hp:∀ k,(fun k=>0<n∧k=g) k→¬P k):TisAt w' ad g n x:=
 ⟨h.addr,fun h0=>by obtain ⟨c,r,e⟩:=h.row h0;exact ⟨c,r.fr hf (hp g (⟨h0,rfl⟩)),e⟩⟩
theorem TisAt.grow {w w':World} {ad:Option Addr} {g n:Nat} {x:Nat→Ti} (h:TisAt w ad g n x) (hf:Below w.1.size w w'):TisAt w' ad g n x:=h.fr (FrP.of_below (P:=fun _=>False) hf) (fun _ _ h=>h)
theorem markTis_own (ad:Option Addr) (g n:Nat) (x:Nat→Ti) (cap k0:Nat) (w:World) (hl:(n:Int)≤1048576) (hk1:1≤(k0:Int)) (hk2:(mkTis k0 x n:Int)≤1073741824) (hc:TisAt w ad g n x) :
  Calls Tryz.prog 50 #[.slice ad n cap,.int .i64 k0] w fun e w'=>e=.returned (.int .i64 (mkTis k0 x n))∧TisAt w' ad g n (ykTi k0 x n)∧FrP (fun k=>0<n∧k=g) w w':=by
 go_enter Tryz.func50,Tryz.ntmps50
 go_wp2
 go_loopw [1,5] (fun t i wr=>∃ k:Nat,k≤n∧i=.int .i64 k∧t=.int .i64 (mkTis k0 x k)∧FrP (fun k=>0<n∧k=g) w wr∧TisAt wr ad g n (ykTi k0 x k)) (fun _ i _=>n-(intOf i).toNat)
 case atStart=>exact ⟨0,Nat.zero_le _,rfl,rfl,FrP.refl _ _,by rw [ykTi_zero];exact hc⟩
 case round=>
  obtain ⟨k,hk,rfl,rfl,hfr,ho⟩:=hrel
  clear hc
  by_cases hkn:k<n
  ·have hmo:=mkTis_mono k0 x (k:=k+1) (n:=n) Za
   have hm1:=mkTis_pos k0 x k Za
   have hms:mkTis k0 x (k+1)=mkTis k0 x k+5:=rfl
   have HM:Hid (mkTis k0 x (k+1)=mkTis k0 x k+5):=hms
   have hm:mkTis k0 x k+5≤1073741824:=Za
   clear hmo hms
   obtain ⟨m,hme⟩:∃ m,mkTis k0 x k=m:=⟨_,rfl⟩
   rw [hme] at hm1 hm HM ⊢
   have HME:=hid hme
   clear hme
   obtain rfl:=ho.addr Za
   obtain ⟨c,r0,hat⟩:=ho.row Za
   have HO:=hid ho
   have HAT:=hid hat
   have hfr':=hid hfr
   clear ho hat hfr
   have f0:FrP (fun q=>q=g) wr wr:=FrP.refl _ _
   go_wp2_with fail
   refine (markText_at _ (m+0) Za _ Za Za).mono ?_
   rintro e w1 ⟨rfl,b1⟩
   have r1:=r0.below b1 Zav
   have f1:=f0.trans (FrP.of_below b1)
   clear r0 f0 b1
   have q0:=r1.cell (k*5) Za
   have q1:=r1.cell (k*5+1) Za
   have qf1:=r1.free
   go_wp2_with fail
   refine (markText_at _ (m+2) Za _ Za Za).mono ?_
   rintro e w2 ⟨rfl,b2⟩
   have r2:=((r1.set (o:=k*5) Za _).set (o:=k*5+1) Za _).below b2 Zaw
   have f2:=((f1.setCell (p:=⟨g,k*5,none⟩) rfl _).setCell (p:=⟨g,k*5+1,none⟩) rfl _).trans (FrP.of_below b2)
   clear q0 q1 qf1 r1 f1 b2
   have q2:=r2.cell (k*5+2) Za
   have q3:=r2.cell (k*5+3) Za
   have q4:=r2.cell (k*5+4) Za
   have qf2:=r2.free
   go_wp2
   go_roundw
   case rel=>
    refine ⟨k+1,Za,by go_num,by rw [HM.out];apply congrArg;omega,hfr'.out.trans (FrP.mono (((f2.setCell (p:=⟨g,k*5+2,none⟩) rfl _).setCell (p:=⟨g,k*5+3,none⟩) rfl _).setCell (p:=⟨g,k*5+4,none⟩) rfl _) (fun q hq=>⟨Za,hq⟩)),fun _=>rfl,fun _=>⟨_,(((r2.set (o:=k*5+2) Za _).set (o:=k*5+3) Za _).set (o:=k*5+4) Za _),fun i hi=>?_⟩⟩
    by_cases e:i=k
    ·subst e
     rw [ykTi_lt (Nat.lt_succ_self i),HME.out]
     refine ⟨?_,?_,?_,?_,?_⟩
     all_goals first|(simp [setF,mkTi];done)|(simp [setF,mkTi];omega)|(simp [setF,mkTi];exact rem3 Za)
    ·rw [ykTi_ne e]
     exact (atTi_set (atTi_set (atTi_set (atTi_set (atTi_set (HAT.out i hi) e (k:=k) Za Za _) e (k:=k) Za Za _) e (k:=k) Za Za _) e (k:=k) Za Za _) e (k:=k) Za Za _)
   case measure=>simp [intOf];omega
  ·exact apP065
theorem heldTis_own (ad:Option Addr) (g n:Nat) (x:Nat→Ti) (cap k0:Nat) (w:World) (hl:(n:Int)≤1048576) (hk1:1≤(k0:Int)) (hk2:(mkTis k0 x n:Int)≤1073741824) (hc:TisAt w ad g n (ykTi k0 x n)) :
  Calls Tryz.prog 66 #[.slice ad n cap,.int .i64 k0] w fun e w'=>e=.returned (.int .i64 (mkTis k0 x n))∧Below w.1.size w w':=by
 have HO:=hid hc
 clear hc
 go_enter Tryz.func66,Tryz.ntmps66
 go_wp2
 go_loopw [1,5] (fun t i wr=>∃ k:Nat,k≤n∧i=.int .i64 k∧t=.int .i64 (mkTis k0 x k)∧Below w.1.size w wr) (fun _ i _=>n-(intOf i).toNat)
 case atStart=>exact ⟨0,Nat.zero_le _,rfl,rfl,Below.refl _ _⟩
 case round=>
  obtain ⟨k,hk,rfl,rfl,b0⟩:=hrel
  by_cases hkn:k<n
  ·have hmo:=mkTis_mono k0 x (k:=k+1) (n:=n) Za
   have hm1:=mkTis_pos k0 x k Za
   have hms:mkTis k0 x (k+1)=mkTis k0 x k+5:=rfl
   have HM:Hid (mkTis k0 x (k+1)=mkTis k0 x k+5):=hms
   have hm:mkTis k0 x k+5≤1073741824:=Za
   clear hmo hms
   have hadr:=HO.out.addr Za
   obtain ⟨c,rr,hat⟩:=HO.out.row Za
   have hak:=hat k hkn
   rw [ykTi_lt hkn] at hak
   obtain ⟨m,hme⟩:∃ m,mkTis k0 x k=m:=⟨_,rfl⟩
   rw [hme] at hm1 hm HM hak ⊢
   clear hme hat
   subst hadr
   obtain ⟨a0,a1,a2,a3,a4⟩:=hak
   replace a0:c (k*5)=.string (mt m):=a0
   replace a1:c (k*5+1)=.int .i64 ((m:Int)+1):=a1.trans Zbc
   replace a2:c (k*5+2)=.string (mt (m+2)):=a2
   replace a3:c (k*5+3)=.int .i64 ((m:Int)+1+1+1):=a3.trans Zbc
   replace a4:c (k*5+4)=.int .i64 ((m:Int)+1+1+1+1):=a4.trans Zbc
   have A0:=hid a0
   have A1:=hid a1
   have A2:=hid a2
   have A3:=hid a3
   have A4:=hid a4
   have RR:=hid rr
   have hgw:=rr.lt
   clear rr a0 a1 a2 a3 a4
   have z1:=b0.size
   have qq0:=((RR.out.below b0 hgw).cell (k*5) Za).trans (congrArg some A0.out)
   have y0:=subcell qq0 (by show g<_;omega)
   have hne1:Nonempty (GW wr):=⟨⟨_,Below.refl _ _⟩⟩
   go_wp2
   refine wp_region_grow Zf Zf ?_
   repeat (go_big_quiet_step ((go_at_call 107;go_must (exact grow_of (markText_at _ (m+0) Za _ Za Za)))))
   refine wpQuiet_nil ?_
   rintro w1 ⟨u,hu⟩
   have c1:Below wr.1.size wr w1:=hu▸u.prop
   have b1:=b0.trans (c1.mono Za)
   clear hu u hne1 qq0 y0 c1
   have q1:=((RR.out.below b1 hgw).cell (k*5+1) Za).trans (congrArg some A1.out)
   have z2:=b1.size
   have qq2:=((RR.out.below b1 hgw).cell (k*5+2) Za).trans (congrArg some A2.out)
   have y2:=subcell qq2 (by show g<_;omega)
   have hne2:Nonempty (GW w1):=⟨⟨_,Below.refl _ _⟩⟩
   go_wp2
   refine wp_region_grow Zf Zf ?_
   repeat (go_big_quiet_step ((go_at_call 107;go_must (exact grow_of (markText_at _ (m+2) Za _ Za Za)))))
   refine wpQuiet_nil ?_
   rintro w2 ⟨u,hu⟩
   have c2:Below w1.1.size w1 w2:=hu▸u.prop
   have b2:=b1.trans (c2.mono Za)
   clear hu u hne2 qq2 y2 c2 q1
   have q3:=((RR.out.below b2 hgw).cell (k*5+3) Za).trans (congrArg some A3.out)
   have q4:=((RR.out.below b2 hgw).cell (k*5+4) Za).trans (congrArg some A4.out)
   go_wp2
   go_roundw
   case rel=>exact ⟨k+1,Za,by go_num,by rw [HM.out];apply congrArg;omega,b2⟩
   case measure=>simp [intOf];omega
  ·have:k=n:=Za
   subst this
   go_wp2
   go_ret
   exact ⟨rfl,b0⟩
theorem ObsAt.blt {w:World} {ad:Option Addr} {g n:Nat} {x:Nat→Ob} {A:Nat→Option Addr} {C hb:Nat→Nat} (h:ObsAt w ad g n x A C hb) {k:Nat} (hk:blkH g n (fun i=>(x i).hn) hb k):k<w.1.size:=by
 rcases hk with ⟨h0,rfl⟩|⟨i,hi,h0,rfl⟩
 ·obtain ⟨c,r,_⟩:=h.row h0;exact r.lt
 ·exact h.hlt i hi h0
theorem ChsAt.blt {w:World} {ad:Option Addr} {g n:Nat} {x:Nat→Ch} {A:Nat→Option Addr} {C hb:Nat→Nat} (h:ChsAt w ad g n x A C hb) {k:Nat} (hk:blkH g n (fun i=>(x i).ob.hn) hb k):k<w.1.size:=by
 rcases hk with ⟨h0,rfl⟩|⟨i,hi,h0,rfl⟩
 ·obtain ⟨c,r,_⟩:=h.row h0;exact r.lt
 ·exact h.hlt i hi h0
theorem TisAt.blt {w:World} {ad:Option Addr} {g n:Nat} {x:Nat→Ti} (h:TisAt w ad g n x) {k:Nat} (hk:0<n∧k=g):k<w.1.size:=by
 obtain ⟨h0,rfl⟩:=hk
 obtain ⟨c,r,_⟩:=h.row h0;exact r.lt
structure Pl where
 a1:Option Addr
 a2:Option Addr
 a3:Option Addr
 g1:Nat
 g2:Nat
 g3:Nat
 A1:Nat→Option Addr
 C1:Nat→Nat
 h1:Nat→Nat
 A2:Nat→Option Addr
 C2:Nat→Nat
 h2:Nat→Nat
def blk1 (p:Pl) (x:Bk) (k:Nat):Prop:=blkH p.g1 x.on (fun i=>(x.os i).hn) p.h1 k
def blk2 (p:Pl) (x:Bk) (k:Nat):Prop:=blkH p.g2 x.hn (fun i=>(x.hs i).ob.hn) p.h2 k
def blk3 (p:Pl) (x:Bk) (k:Nat):Prop:=0<x.tn∧k=p.g3
def blkB (p:Pl) (x:Bk) (k:Nat):Prop:=blk1 p x k∨(blk2 p x k∨blk3 p x k)
structure BkAt (w:World) (x:Bk) (p:Pl):Prop where
 o:ObsAt w p.a1 p.g1 x.on x.os p.A1 p.C1 p.h1
 h:ChsAt w p.a2 p.g2 x.hn x.hs p.A2 p.C2 p.h2
 t:TisAt w p.a3 p.g3 x.tn x.ts
 d12:∀ k,blk1 p x k→¬blk2 p x k
 d13:∀ k,blk1 p x k→¬blk3 p x k
 d23:∀ k,blk2 p x k→¬blk3 p x k
theorem BkAt.blt {w:World} {x:Bk} {p:Pl} (h:BkAt w x p) {k:Nat} (hk:blkB p x k):k<w.1.size:=by
 rcases hk with h1|h1|h1
 ·exact h.o.blt h1
 ·exact h.h.blt h1
 ·exact h.t.blt h1
theorem BkAt.fr {w w':World} {x:Bk} {p:Pl} {P:Nat→Prop} (h:BkAt w x p) (hf:FrP P w w') (hp:∀ k,blkB p x k→¬P k):BkAt w' x p:=
 ⟨h.o.fr hf (fun k hk=>hp k (Or.inl hk)),h.h.fr hf (fun k hk=>hp k (Or.inr (Or.inl hk))),h.t.fr hf (fun k hk=>hp k (Or.inr (Or.inr hk))),h.d12,h.d13,h.d23⟩
theorem BkAt.grow {w w':World} {x:Bk} {p:Pl} (h:BkAt w x p) (hf:Below w.1.size w w'):BkAt w' x p:=h.fr (FrP.of_below (P:=fun _=>False) hf) (fun _ _ h=>h)
def mkBk (k0:Nat) (x:Bk):Nat:=mkTis (mkChs (mkObs k0 x.os x.on) x.hs x.hn) x.ts x.tn
def ykBk (k0:Nat) (x:Bk):Bk:={ x with os:=ykOb k0 x.os x.on,hs:=ykCh (mkObs k0 x.os x.on) x.hs x.hn,ts:=ykTi (mkChs (mkObs k0 x.os x.on) x.hs x.hn) x.ts x.tn }
theorem blk1_yk (p:Pl) (k0:Nat) (x:Bk):blk1 p (ykBk k0 x)=blk1 p x:=by
 unfold blk1 ykBk
 simp only [ykOb_hn]
theorem blk2_yk (p:Pl) (k0:Nat) (x:Bk):blk2 p (ykBk k0 x)=blk2 p x:=by
 unfold blk2 ykBk
 simp only [ykCh_hn]
theorem blk3_yk (p:Pl) (k0:Nat) (x:Bk):blk3 p (ykBk k0 x)=blk3 p x:=rfl
theorem blkB_yk (p:Pl) (k0:Nat) (x:Bk):blkB p (ykBk k0 x)=blkB p x:=by
 unfold blkB
 rw [blk1_yk,blk2_yk,blk3_yk]
theorem markBk_own (x:Bk) (p:Pl) (c1 c2 c3 k0:Nat) (w:World) (l1:(x.on:Int)≤1048576) (l2:(x.hn:Int)≤1048576) (l3:(x.tn:Int)≤1048576) (hk1:1≤(k0:Int)) (hk2:(mkBk k0 x:Int)≤1073741824) (hc:BkAt w x p) :
  Calls Tryz.prog 14 #[.agg #[.int .i64 x.now,.int .i64 x.floor,.slice p.a1 x.on c1,.slice p.a2 x.hn c2,.slice p.a3 x.tn c3],.int .i64 k0] w fun e w'=>e=.returned (.int .i64 (mkBk k0 x))∧BkAt w' (ykBk k0 x) p∧FrP (blkB p x) w w':=by
 have m1:=mkObs_pos k0 x.os x.on Za
 have m2:=mkChs_pos (mkObs k0 x.os x.on) x.hs x.hn m1
 have n2:=mkChs_mono (mkObs k0 x.os x.on) x.hs (Nat.zero_le x.hn)
 have n3:=mkTis_mono (mkChs (mkObs k0 x.os x.on) x.hs x.hn) x.ts (Nat.zero_le x.tn)
 have hk3:(mkTis (mkChs (mkObs k0 x.os x.on) x.hs x.hn) x.ts x.tn:Int)≤1073741824:=hk2
 simp only [mkChs,mkTis] at n2 n3
 have HC:=hid hc
 have hA:=hid (hc.grow (below_alloc w (.cells #[.int .i64 x.now,.int .i64 x.floor,.slice p.a1 x.on c1,.slice p.a2 x.hn c2,.slice p.a3 x.tn c3] 35)))
 clear hc hk2
 go_enter Tryz.func14,Tryz.ntmps14
 go_wp2_with fail
 refine (markObs_own p.a1 p.g1 x.on x.os p.A1 p.C1 p.h1 c1 k0 _ l1 hk1 Za hA.out.o).mono ?_
 rintro e w1 ⟨rfl,o1,f1⟩
 have q3:w1.cell? ⟨w.1.size,3,none⟩=some (.slice p.a2 x.hn c2):=(f1.cell (p:=⟨w.1.size,3,none⟩) Zd (fun h=>Nat.lt_irrefl _ (HC.out.o.blt h))).trans (World.cell?_alloc_new _ _ _ _)
 have q4:w1.cell? ⟨w.1.size,4,none⟩=some (.slice p.a3 x.tn c3):=(f1.cell (p:=⟨w.1.size,4,none⟩) Zd (fun h=>Nat.lt_irrefl _ (HC.out.o.blt h))).trans (World.cell?_alloc_new _ _ _ _)
 have O1:=hid o1
 have F1:=hid f1
 have H1:=hid (hA.out.h.fr f1 (fun k h2 h1=>HC.out.d12 k h1 h2))
 have T1:=hid (hA.out.t.fr f1 (fun k h2 h1=>HC.out.d13 k h1 h2))
 have z1:w.1.size<w1.1.size:=by have:=f1.size;simp at this;omega
 clear o1 f1 hA
 go_wp2_with fail
 refine (markChs_own p.a2 p.g2 x.hn x.hs p.A2 p.C2 p.h2 c2 (mkObs k0 x.os x.on) _ l2 Za Za H1.out).mono ?_
 rintro e w2 ⟨rfl,o2,f2⟩
 have r4:=(f2.cell (p:=⟨w.1.size,4,none⟩) z1 (fun h=>Nat.lt_irrefl _ (HC.out.h.blt h))).trans q4
 have O2:=hid o2
 have F2:=hid f2
 have O1':=hid (O1.out.fr f2 (fun k h1 h2=>HC.out.d12 k (by have:=h1;simp only [ykOb_hn] at this;exact this) h2))
 have T2:=hid (T1.out.fr f2 (fun k h2 h1=>HC.out.d23 k h1 h2))
 clear o2 f2 q3 q4 O1 T1 H1
 go_wp2_with fail
 refine (markTis_own p.a3 p.g3 x.tn x.ts c3 (mkChs (mkObs k0 x.os x.on) x.hs x.hn) _ l3 Za hk3 T2.out).mono ?_
 rintro e w3 ⟨rfl,o3,f3⟩
 have O3:=hid o3
 have F3:=hid f3
 clear o3 f3 r4
 go_wp2
 go_ret
 have d1:=HC.out.d12
 have d2:=HC.out.d13
 have d3:=HC.out.d23
 refine ⟨rfl,⟨O1'.out.fr F3.out (fun k h1 h2=>d2 k (by have:=h1;simp only [ykOb_hn] at this;exact this) h2),O2.out.fr F3.out (fun k h1 h2=>d3 k (by have:=h1;simp only [ykCh_hn] at this;exact this) h2),O3.out,by rw [blk1_yk,blk2_yk];exact d1,by rw [blk1_yk,blk3_yk];exact d2,by rw [blk2_yk,blk3_yk];exact d3⟩,?_⟩
 exact ((FrP.of_below (below_alloc w _)).trans (F1.out.mono (fun k h=>Or.inl h))).trans ((F2.out.mono (fun k h=>Or.inr (Or.inl h))).trans (F3.out.mono (fun k h=>Or.inr (Or.inr h))))
theorem heldBk_own (x:Bk) (p:Pl) (c1 c2 c3 k0:Nat) (w:World) (l1:(x.on:Int)≤1048576) (l2:(x.hn:Int)≤1048576) (l3:(x.tn:Int)≤1048576) (hk1:1≤(k0:Int)) (hk2:(mkBk k0 x:Int)≤1073741824) (no fl:Int) (hc:BkAt w (ykBk k0 x) p) :
  Calls Tryz.prog 30 #[.agg #[.int .i64 no,.int .i64 fl,.slice p.a1 x.on c1,.slice p.a2 x.hn c2,.slice p.a3 x.tn c3],.int .i64 k0] w fun e w'=>e=.returned (.int .i64 (mkBk k0 x))∧Below w.1.size w w':=by
 have m1:=mkObs_pos k0 x.os x.on Za
 have m2:=mkChs_pos (mkObs k0 x.os x.on) x.hs x.hn m1
 have m3:=mkTis_pos (mkChs (mkObs k0 x.os x.on) x.hs x.hn) x.ts x.tn m2
 have n2:=mkChs_mono (mkObs k0 x.os x.on) x.hs (Nat.zero_le x.hn)
 have n3:=mkTis_mono (mkChs (mkObs k0 x.os x.on) x.hs x.hn) x.ts (Nat.zero_le x.tn)
 have hk3:(mkTis (mkChs (mkObs k0 x.os x.on) x.hs x.hn) x.ts x.tn:Int)≤1073741824:=hk2
 simp only [mkChs,mkTis] at n2 n3
 have hA:=hid (hc.grow (below_alloc w (.cells #[.int .i64 no,.int .i64 fl,.slice p.a1 x.on c1,.slice p.a2 x.hn c2,.slice p.a3 x.tn c3] 35)))
 clear hc hk2
 go_enter Tryz.func30,Tryz.ntmps30
 go_wp2_with fail
 refine (heldObs_own p.a1 p.g1 x.on x.os p.A1 p.C1 p.h1 c1 k0 _ l1 hk1 Za hA.out.o).mono ?_
 rintro e w1 ⟨rfl,b1⟩
 have q3:=box_cell b1 3
 have q4:=box_cell b1 4
 simp only [List.getElem?_toArray,List.getElem?_cons_succ,List.getElem?_cons_zero] at q3 q4
 have z1:w.1.size<w1.1.size:=by have:=b1.size;simp at this;omega
 have H1:=hid (hA.out.h.grow b1)
 have T1:=hid (hA.out.t.grow b1)
 have B1:Below w.1.size w w1:=(below_alloc _ _).trans (b1.mono Zd)
 clear b1 hA
 go_wp2_with fail
 refine (heldChs_own p.a2 p.g2 x.hn x.hs p.A2 p.C2 p.h2 c2 (mkObs k0 x.os x.on) _ l2 Za Za H1.out).mono ?_
 rintro e w2 ⟨rfl,b2⟩
 have r4:=(b2.cell (p:=⟨w.1.size,4,none⟩) z1).trans q4
 have T2:=hid (T1.out.grow b2)
 have B2:=B1.trans (b2.mono B1.size)
 clear b2 q3 q4 T1 H1
 go_wp2_with fail
 refine (heldTis_own p.a3 p.g3 x.tn x.ts c3 (mkChs (mkObs k0 x.os x.on) x.hs x.hn) _ l3 Za hk3 T2.out).mono ?_
 rintro e w3 ⟨rfl,b3⟩
 have B3:=B2.trans (b3.mono B2.size)
 clear b3 r4
 go_wp2
 go_ret
 exact ⟨rfl,B3⟩
def CapOk (n:Nat) (ad:Option Addr) (cap:Nat):Prop:=n≤cap∧(ad=none→cap=0)∧(n=0→ad=none)
theorem run_copy_many {P:Program} (w:World) (dT sT ty elem:TypeId) (b o dLen dCap:Nat) (a:Addr) (sLen sCap z:Nat) (cs:List Value)
  (hu:P.underlying dT=some (.slice elem)) (hs:(P.info? elem).map (·.size)=some z) (hn:cs.length=Nat.min sLen dLen*z)
  (hsrc:∀ j v,cs[j]? = some v→w.cell? (a.add j)=some v) (hc:∀ j,j<cs.length→(w.cell? ⟨b,o+j,none⟩).isSome=true) (hf:∀ j,j<cs.length→w.frozen? ⟨b,o+j,none⟩=false) (h1:∀ v ∈ cs,v.oneCell'=true) :
  (Builtin.copy_ #[dT,sT] ty #[.slice (some ⟨b,o,none⟩) dLen dCap,.slice (some a) sLen sCap]).run P w=.ok (goInt (Nat.min sLen dLen)) (w.setCells b o cs):=by
 have hl:=run_loadCells_list (P:=P) w a cs hsrc
 have hst:=run_storeCells_cells (P:=P) b o cs 0 w (by simpa using hc) (by simpa using hf) h1
 cases hq:P.info? elem with
 | none=>simp [hq] at hs
 | some i=>
  have hi:i.size=z:=by simpa [hq] using hs
  simp [Builtin.copy_,run_underlying hu,Builtin.lenOf,Builtin.firstCells,sizeOf,typeInfo,hq,hi,←hn,hl,hst]
structure SrcRow (w:World) (lo hi:Nat) (ad:Option Addr) (m:Nat) (c:Nat→Value):Prop where
 at_:∀ j,j<m→∃ b off,ad=some ⟨b,off,none⟩∧lo≤b∧b<hi∧w.cell? ⟨b,off+j,none⟩=some (c j)
 one:∀ j,j<m→(c j).oneCell'=true
def rowCells (m:Nat) (c:Nat→Value):List Value:=(List.range m).map c
theorem rowCells_len (m:Nat) (c:Nat→Value):(rowCells m c).length=m:=by simp [rowCells]
theorem rowCells_get {m:Nat} {c:Nat→Value} {j:Nat} {u:Value} (h:(rowCells m c)[j]? = some u):j<m∧u=c j:=by
 simp only [rowCells,List.getElem?_map] at h
 rcases Nat.lt_or_ge j m with h1|h1
 ·rw [List.getElem?_eq_getElem (by simpa using h1)] at h
  simp at h
  exact ⟨h1,h.symm⟩
 ·rw [List.getElem?_eq_none (by simpa using h1)] at h
  cases h
theorem rowCells_at {m:Nat} {c:Nat→Value} {j:Nat} (h:j<(rowCells m c).length):(rowCells m c)[j]=c j:=by simp [rowCells]
theorem RowF.filled {w:World} {g m:Nat} (c:Nat→Value) (h:Room w g m):RowF (w.setCells g 0 (rowCells m c)) g m c:=
 ⟨by rw [size_setCells];exact h.lt,fun j=>by rw [World.frozen?_setCells];exact h.free j,fun j hj=>by
  have:=World.cell?_setCells_in g (rowCells m c) 0 w (fun j hj=>by
   rw [rowCells_len] at hj
   obtain ⟨u,hu⟩:=h.has j hj
   rw [Nat.zero_add,hu];rfl) j (by rw [rowCells_len];exact hj)
  rw [Nat.zero_add,rowCells_at] at this
  exact this⟩
theorem apP060 {P:Prop} (h:P:=by
  go_ret
  exact ⟨_,_,rfl,⟨Nat.le_refl _,fun h=>Zbh,fun h=>absurd h Za⟩,fun _=>⟨rfl,by simpa using R1.out⟩,by simpa using R2.out.below Zbt Zbt⟩):P:=h
theorem apP061 {P:Prop} (h:P:=by
  go_wp2
  go_ret
  exact ⟨_,_,rfl,⟨Nat.le_refl _,fun _=>rfl,fun _=>rfl⟩,fun h=>absurd h (Nat.lt_irrefl _),Below.refl _ _⟩):P:=h
theorem copyObs_row (n:Nat) (c:Nat→Value) (ad:Option Addr) (cap:Nat) (w:World) (lo hi:Nat) (hhi:hi≤w.1.size) (hl:(n:Int)≤1099511627776) (hc:SrcRow w lo hi ad (n*7) c) :
  Calls Tryz.prog 149 #[.slice ad n cap] w fun e w'=>∃ ad' cap',e=.returned (.slice ad' n cap')∧CapOk n ad' cap'∧(0<n→ad'=some ⟨w.1.size,0,none⟩∧RowF w' w.1.size (n*7) c)∧Below w.1.size w w':=by
 rcases Nat.eq_zero_or_pos n with h0|hpos
 ·subst h0
  go_enter Tryz.func149,Tryz.ntmps149
  exact apP061
 ·obtain ⟨i0,hi0,hz0,hz1,hz2⟩:=info_parts Tryz.info118
  obtain ⟨b,off,rfl,hlo,hbh,_⟩:=hc.at_ 0 Za
  have hne:((n:Int)==0)=false:=Zc
  have hsz:(Tryz.prog.info? 118).map (·.size)=some 7:=by rw [hi0];simp [hz1]
  have HC:=hid hc
  clear hc
  go_enter Tryz.func149,Tryz.ntmps149
  go_wp2_with (first
   | (at_make;refine wpList_make_full _ rfl _ _ 31 rfl w.1.size 118 i0 _ 7 Tryz.underlying31 hi0 hz0 hz1 .i64 .i64 _ _ n rfl rfl Za Za Zbd Zs Za ?_;intro w1 hown1 hgrow1;have hr1:=hid (room_made hown1);have hb1:Below w.1.size w w1:=(Below.refl _ _).grown hgrow1 Zbt Zd;clear hown1 hgrow1;have hrun:=run_copy_many (P:=Tryz.prog) w1 31 31 3 118 w.1.size 0 n n ⟨b,off,none⟩ n cap 7 (rowCells (n*7) c) Tryz.underlying31 hsz (by rw [rowCells_len];simp) Zn Zao (by intro j _;exact hr1.out.free _) Zaq;have R1:=hid (RowF.filled c hr1.out);have R2:=hid ((Fr.of_below (lo:=w.1.size) (hi:=w.1.size+1) hb1).trans (fr_setCells w.1.size (rowCells (n*7) c) 0 w1));clear hr1 HC))
  exact apP060
theorem copyChs_row (n:Nat) (c:Nat→Value) (ad:Option Addr) (cap:Nat) (w:World) (lo hi:Nat) (hhi:hi≤w.1.size) (hl:(n:Int)≤1099511627776) (hc:SrcRow w lo hi ad (n*9) c) :
  Calls Tryz.prog 93 #[.slice ad n cap] w fun e w'=>∃ ad' cap',e=.returned (.slice ad' n cap')∧CapOk n ad' cap'∧(0<n→ad'=some ⟨w.1.size,0,none⟩∧RowF w' w.1.size (n*9) c)∧Below w.1.size w w':=by
 rcases Nat.eq_zero_or_pos n with h0|hpos
 ·subst h0
  go_enter Tryz.func93,Tryz.ntmps93
  exact apP061
 ·obtain ⟨i0,hi0,hz0,hz1,hz2⟩:=info_parts Tryz.info120
  obtain ⟨b,off,rfl,hlo,hbh,_⟩:=hc.at_ 0 Za
  have hne:((n:Int)==0)=false:=Zc
  have hsz:(Tryz.prog.info? 120).map (·.size)=some 9:=by rw [hi0];simp [hz1]
  have HC:=hid hc
  clear hc
  go_enter Tryz.func93,Tryz.ntmps93
  go_wp2_with (first
   | (at_make;refine wpList_make_full _ rfl _ _ 32 rfl w.1.size 120 i0 _ 9 Tryz.underlying32 hi0 hz0 hz1 .i64 .i64 _ _ n rfl rfl Za Za Zbd Zs Za ?_;intro w1 hown1 hgrow1;have hr1:=hid (room_made hown1);have hb1:Below w.1.size w w1:=(Below.refl _ _).grown hgrow1 Zbt Zd;clear hown1 hgrow1;have hrun:=run_copy_many (P:=Tryz.prog) w1 32 32 3 120 w.1.size 0 n n ⟨b,off,none⟩ n cap 9 (rowCells (n*9) c) Tryz.underlying32 hsz (by rw [rowCells_len];simp) Zn Zao (by intro j _;exact hr1.out.free _) Zaq;have R1:=hid (RowF.filled c hr1.out);have R2:=hid ((Fr.of_below (lo:=w.1.size) (hi:=w.1.size+1) hb1).trans (fr_setCells w.1.size (rowCells (n*9) c) 0 w1));clear hr1 HC))
  exact apP060
theorem copyTis_row (n:Nat) (c:Nat→Value) (ad:Option Addr) (cap:Nat) (w:World) (lo hi:Nat) (hhi:hi≤w.1.size) (hl:(n:Int)≤1099511627776) (hc:SrcRow w lo hi ad (n*5) c) :
  Calls Tryz.prog 95 #[.slice ad n cap] w fun e w'=>∃ ad' cap',e=.returned (.slice ad' n cap')∧CapOk n ad' cap'∧(0<n→ad'=some ⟨w.1.size,0,none⟩∧RowF w' w.1.size (n*5) c)∧Below w.1.size w w':=by
 rcases Nat.eq_zero_or_pos n with h0|hpos
 ·subst h0
  go_enter Tryz.func95,Tryz.ntmps95
  exact apP061
 ·obtain ⟨i0,hi0,hz0,hz1,hz2⟩:=info_parts Tryz.info130
  obtain ⟨b,off,rfl,hlo,hbh,_⟩:=hc.at_ 0 Za
  have hne:((n:Int)==0)=false:=Zc
  have hsz:(Tryz.prog.info? 130).map (·.size)=some 5:=by rw [hi0];simp [hz1]
  have HC:=hid hc
  clear hc
  go_enter Tryz.func95,Tryz.ntmps95
  go_wp2_with (first
   | (at_make;refine wpList_make_full _ rfl _ _ 33 rfl w.1.size 130 i0 _ 5 Tryz.underlying33 hi0 hz0 hz1 .i64 .i64 _ _ n rfl rfl Za Za Zbd Zs Za ?_;intro w1 hown1 hgrow1;have hr1:=hid (room_made hown1);have hb1:Below w.1.size w w1:=(Below.refl _ _).grown hgrow1 Zbt Zd;clear hown1 hgrow1;have hrun:=run_copy_many (P:=Tryz.prog) w1 33 33 3 130 w.1.size 0 n n ⟨b,off,none⟩ n cap 5 (rowCells (n*5) c) Tryz.underlying33 hsz (by rw [rowCells_len];simp) Zn Zao (by intro j _;exact hr1.out.free _) Zaq;have R1:=hid (RowF.filled c hr1.out);have R2:=hid ((Fr.of_below (lo:=w.1.size) (hi:=w.1.size+1) hb1).trans (fr_setCells w.1.size (rowCells (n*5) c) 0 w1));clear hr1 HC))
  exact apP060
theorem copyStr_row (n:Nat) (c:Nat→Value) (ad:Option Addr) (cap:Nat) (w:World) (lo hi:Nat) (hhi:hi≤w.1.size) (hl:(n:Int)≤8796093022208) (hc:SrcRow w lo hi ad (n*1) c) :
  Calls Tryz.prog 181 #[.slice ad n cap] w fun e w'=>∃ ad' cap',e=.returned (.slice ad' n cap')∧CapOk n ad' cap'∧(0<n→ad'=some ⟨w.1.size,0,none⟩∧RowF w' w.1.size (n*1) c)∧Below w.1.size w w':=by
 rcases Nat.eq_zero_or_pos n with h0|hpos
 ·subst h0
  go_enter Tryz.func181,Tryz.ntmps181
  exact apP061
 ·obtain ⟨i0,hi0,hz0,hz1,hz2⟩:=info_parts Tryz.info9
  obtain ⟨b,off,rfl,hlo,hbh,_⟩:=hc.at_ 0 Za
  have hne:((n:Int)==0)=false:=Zc
  have hsz:(Tryz.prog.info? 9).map (·.size)=some 1:=by rw [hi0];simp [hz1]
  have HC:=hid hc
  clear hc
  go_enter Tryz.func181,Tryz.ntmps181
  go_wp2_with (first
   | (at_make;refine wpList_make_full _ rfl _ _ 108 rfl w.1.size 9 i0 _ 1 Tryz.underlying108 hi0 hz0 hz1 .i64 .i64 _ _ n rfl rfl Za Za Zbd Zs Za ?_;intro w1 hown1 hgrow1;have hr1:=hid (room_made hown1);have hb1:Below w.1.size w w1:=(Below.refl _ _).grown hgrow1 Zbt Zd;clear hown1 hgrow1;have hrun:=run_copy_many (P:=Tryz.prog) w1 108 108 3 9 w.1.size 0 n n ⟨b,off,none⟩ n cap 1 (rowCells (n*1) c) Tryz.underlying108 hsz (by rw [rowCells_len];simp) Zn Zao (by intro j _;exact hr1.out.free _) Zaq;have R1:=hid (RowF.filled c hr1.out);have R2:=hid ((Fr.of_below (lo:=w.1.size) (hi:=w.1.size+1) hb1).trans (fr_setCells w.1.size (rowCells (n*1) c) 0 w1));clear hr1 HC))
  exact apP060
theorem StrsIn.src {w:World} {lo hi:Nat} {ad:Option Addr} {n:Nat} {s:Nat→ByteArray} (h:StrsIn w lo hi ad n s):SrcRow w lo hi ad (n*1) (fun j=>.string (s j)):=
 ⟨fun j hj=>h j Za,fun _ _=>rfl⟩
theorem RowF.strs {w:World} {g n:Nat} {s:Nat→ByteArray} (h:RowF w g (n*1) (fun j=>.string (s j))):StrsOwn w g (g+1) (some ⟨g,0,none⟩) n s:=fun i hi=>
 ⟨g,0,rfl,Nat.le_refl _,Nat.lt_succ_self _,by rw [Nat.zero_add];exact h.cell i Za,by rw [Nat.zero_add];exact h.free i⟩
theorem StrsOwn.zero {w:World} {b:Nat} {ad:Option Addr} {s:Nat→ByteArray} : StrsOwn w b (b+1) ad 0 s:=fun _ hi=>absurd hi (Nat.not_lt_zero _)
theorem copyStr_own (n:Nat) (s:Nat→ByteArray) (ad:Option Addr) (cap:Nat) (w:World) (lo hi:Nat) (hhi:hi≤w.1.size) (hl:(n:Int)≤8796093022208) (hc:StrsIn w lo hi ad n s) :
  Calls Tryz.prog 181 #[.slice ad n cap] w fun e w'=>∃ ad' cap',e=.returned (.slice ad' n cap')∧CapOk n ad' cap'∧StrsOwn w' w.1.size (w.1.size+1) ad' n s∧(n≠0→w.1.size<w'.1.size)∧Below w.1.size w w':=
 (copyStr_row n _ ad cap w lo hi hhi hl hc.src).mono fun e w' ⟨ad',cap',h1,hq,h2,h3⟩=>by
  refine ⟨ad',cap',h1,hq,?_,fun h0=>(h2 Za).2.lt,h3⟩
  by_cases h0:n=0
  ·subst h0;exact StrsOwn.zero
  ·obtain ⟨rfl,r⟩:=h2 Za
   exact r.strs
theorem two_cell' {w w1:World} {c0 c1:Array Value} {t0 t1:TypeId} (hb:Below ((w.alloc (.cells c0 t0)).alloc (.cells c1 t1)).1.size ((w.alloc (.cells c0 t0)).alloc (.cells c1 t1)) w1) :
  (∀ i,w1.cell? ⟨w.1.size,i,none⟩=c0[i]?)∧(∀ i,w1.cell? ⟨w.1.size+1,i,none⟩=c1[i]?)∧(∀ i,w1.frozen? ⟨w.1.size,i,none⟩=false)∧(∀ i,w1.frozen? ⟨w.1.size+1,i,none⟩=false):=by
 refine ⟨fun i=>?_,fun i=>?_,fun i=>?_,fun i=>?_⟩
 ·rw [hb.cell (p:=⟨w.1.size,i,none⟩) Zc,World.cell?_alloc_past _ _ _ Zd,World.cell?_alloc_new]
 ·rw [hb.cell (p:=⟨w.1.size+1,i,none⟩) Zd]
  have:=World.cell?_alloc_new (w.alloc (.cells c0 t0)) c1 t1 i
  rwa [World.size_alloc] at this
 ·rw [hb.frozen (p:=⟨w.1.size,i,none⟩) Zc]
  simp
 ·rw [hb.frozen (p:=⟨w.1.size+1,i,none⟩) Zd]
  simp
theorem copyOb_own (x:Ob) (ad:Option Addr) (cap:Nat) (w:World) (lo hi:Nat) (hhi:hi≤w.1.size) (hl:(x.hn:Int)≤8796093022208) (hc:StrsIn w lo hi ad x.hn x.hs) :
  Calls Tryz.prog 150 #[.agg #[.string x.kind,.string x.name,.int .i64 x.ver,.int .i64 x.born,.string x.text,.bool x.ending,.slice ad x.hn cap]] w fun e w'=>∃ ad' cap' b,e=.returned (.agg #[.string x.kind,.string x.name,.int .i64 x.ver,.int .i64 x.born,.string x.text,.bool x.ending,.slice ad' x.hn cap'])∧CapOk x.hn ad' cap'∧w.1.size≤b∧(x.hn≠0→b<w'.1.size)∧StrsOwn w' b (b+1) ad' x.hn x.hs∧Below w.1.size w w':=by
 go_enter Tryz.func150,Tryz.ntmps150
 go_wp2_with fail
 refine (copyStr_own x.hn x.hs ad cap _ lo hi Zc Za (hc.below (B:=w.1.size) (((Below.refl _ _).alloc Zbt _).alloc Zd _) hhi)).mono ?_
 rintro e w1 ⟨ad',cap',rfl,hcp,hown,hlt,hb1⟩
 have hbW:Below w.1.size w w1:=(((Below.refl _ _).alloc Zbt _).alloc Zd _).trans (hb1.mono Zc)
 have hz:w.1.size+1<w1.1.size:=by have:=hb1.size;simp at this;omega
 obtain ⟨A0,A1,F0,F1⟩:=two_cell' hb1
 have p0:=A0 0
 have p1:=A0 1
 have p2:=A0 2
 have p3:=A0 3
 have p4:=A0 4
 have p5:=A0 5
 have p6:=A0 6
 have q0:=A1 0
 have q1:=A1 1
 have q2:=A1 2
 have q3:=A1 3
 have q4:=A1 4
 have q5:=A1 5
 have q6:=A1 6
 simp only [List.getElem?_toArray,List.getElem?_cons_succ,List.getElem?_cons_zero] at p0 p1 p2 p3 p4 p5 p6 q0 q1 q2 q3 q4 q5 q6
 simp only [World.size_alloc] at hown hlt
 have HO:=hid hown
 have HCP:=hid hcp
 have HL:=hid hlt
 clear A0 A1 hb1 hc hown hlt hcp
 go_wp2
 refine bodyPost_ret (v:=.agg #[.string x.kind,.string x.name,.int .i64 x.ver,.int .i64 x.born,.string x.text,.bool x.ending,.slice ad' x.hn cap']) (by simp [results,Tryz.results150,go_sem,q0,q1,q2,q3,q4,q5,q6]) rfl ⟨ad',cap',w.1.size+1+1,rfl,HCP.out,Za,fun h0=>?_,?_,?_⟩
 ·simp only [World.size_setCell]
  exact HL.out h0
 ·refine StrsOwn.frP (P:=fun q=>q=w.1.size∨q=w.1.size+1) HO.out ?_ (fun h0=>⟨Za,HL.out h0⟩)
  iterate 8 refine FrP.setCell ?_ Zd _
  exact FrP.refl _ _
 ·iterate 8 refine Below.setCell ?_ Zd _
  exact hbW
theorem FrP.setNew {P:Nat→Prop} {a w:World} (h:FrP P a w) {p:Addr} (hp:a.1.size≤p.block∨P p.block) (u:Value):FrP P a (w.setCell p u):=
 ⟨h.os,h.tape,h.output,by rw [World.size_setCell];exact h.size,fun k hk ho=>(Below.heap_setCell _ _ _ _ (fun e=>by
  rcases hp with hp|hp
  ·rw [←e] at hp;omega
  ·exact ho (e▸hp))).trans (h.block k hk ho)⟩
def updF {α:Type} (f:Nat→α) (k:Nat) (v:α):Nat→α:=fun i=>if i=k then v else f i
theorem updF_same {α:Type} (f:Nat→α) (k:Nat) (v:α):updF f k v k=v:=if_pos rfl
theorem updF_ne {α:Type} (f:Nat→α) {k i:Nat} (v:α) (h:¬i=k):updF f k v i=f i:=if_neg h
structure CpOb (w:World) (g n k:Nat) (x:Nat→Ob) (A0 A:Nat→Option Addr) (C hb:Nat→Nat):Prop where
 row:0<n→∃ c,RowF w g (n*7) c∧∀ i,i<n→atOb c i (x i) (A i) (C i)
 src:∀ i,k≤i→i<n→A i=A0 i
 hold:∀ i,i<k→StrsOwn w (hb i) (hb i+1) (A i) (x i).hn (x i).hs
 hlt:∀ i,i<k→(x i).hn≠0→g<hb i∧hb i<w.1.size
 inj:∀ i j,i<k→j<k→(x i).hn≠0→(x j).hn≠0→hb i=hb j→i=j
 cap:∀ i,i<k→CapOk (x i).hn (A i) (C i)
theorem apP062 {P:Prop} (h:P:=by
  by_cases e:i=k
  ·subst e
   rw [updF_same,updF_same]
   exact ho.frP (P:=fun q=>q=g) F (fun h0=>⟨Za,hlt' h0⟩)
  ·rw [updF_ne _ _ e,updF_ne _ _ e]
   exact (h.hold i Za).frP (P:=fun q=>q=g) ((FrP.of_below hb1).trans F) (fun h0=>⟨fun e=>Nat.lt_irrefl _ (e▸(h.hlt i Za h0).1),(h.hlt i Za h0).2⟩)):P:=h
theorem apP063 {P:Prop} (h:P:=by
  by_cases e1:i=k
  ·by_cases e2:j=k
   ·rw [e1,e2]
   ·subst e1
    rw [updF_same,updF_ne _ _ e2] at e
    have:=(h.hlt j Za h1).2
    omega
  ·by_cases e2:j=k
   ·subst e2
    rw [updF_same,updF_ne _ _ e1] at e
    have:=(h.hlt i Za h0).2
    omega
   ·rw [updF_ne _ _ e1,updF_ne _ _ e2] at e
    exact h.inj i j Za Za h0 h1 e):P:=h
theorem apP064 {P:Prop} (h:P:=by
  simp only [World.size_setCell]
  by_cases e:i=k
  ·subst e
   rw [updF_same]
   exact ⟨Za,hlt' h0⟩
  ·rw [updF_ne _ _ e]
   exact ⟨(h.hlt i Za h0).1,Nat.lt_of_lt_of_le (h.hlt i Za h0).2 hb1.size⟩):P:=h
theorem CpOb.put {w w1:World} {g n k:Nat} {x:Nat→Ob} {A0 A:Nat→Option Addr} {C hb:Nat→Nat} (h:CpOb w g n k x A0 A C hb) (hk:k<n) (hb1:Below w.1.size w w1) {ad':Option Addr} {cap' b':Nat} (hb':w.1.size≤b') (hlt':(x k).hn≠0→b'<w1.1.size) (ho:StrsOwn w1 b' (b'+1) ad' (x k).hn (x k).hs) (hcp:CapOk (x k).hn ad' cap') :
  CpOb (((((((w1.setCell ⟨g,k*7,none⟩ (.string (x k).kind)).setCell ⟨g,k*7+1,none⟩ (.string (x k).name)).setCell ⟨g,k*7+2,none⟩ (.int .i64 (x k).ver)).setCell ⟨g,k*7+3,none⟩ (.int .i64 (x k).born)).setCell ⟨g,k*7+4,none⟩ (.string (x k).text)).setCell ⟨g,k*7+5,none⟩ (.bool (x k).ending)).setCell ⟨g,k*7+6,none⟩ (.slice ad' (x k).hn cap')) g n (k+1) x A0 (updF A k ad') (updF C k cap') (updF hb k b'):=by
 obtain ⟨c,r,hat⟩:=h.row Za
 have hgw:=r.lt
 have F:FrP (fun q=>q=g) w1 (((((((w1.setCell ⟨g,k*7,none⟩ (.string (x k).kind)).setCell ⟨g,k*7+1,none⟩ (.string (x k).name)).setCell ⟨g,k*7+2,none⟩ (.int .i64 (x k).ver)).setCell ⟨g,k*7+3,none⟩ (.int .i64 (x k).born)).setCell ⟨g,k*7+4,none⟩ (.string (x k).text)).setCell ⟨g,k*7+5,none⟩ (.bool (x k).ending)).setCell ⟨g,k*7+6,none⟩ (.slice ad' (x k).hn cap')):=by
  iterate 7 refine FrP.setCell (P:=fun q=>q=g) ?_ (by rfl) _
  exact FrP.refl _ _
 refine ⟨fun _=>⟨_,((((((((r.below hb1 hgw).set (o:=k*7) Za _).set (o:=k*7+1) Za _).set (o:=k*7+2) Za _).set (o:=k*7+3) Za _).set (o:=k*7+4) Za _).set (o:=k*7+5) Za _).set (o:=k*7+6) Za _),fun i hi=>?_⟩,fun i h1 h2=>?_,fun i hi=>?_,fun i hi h0=>?_,fun i j hi hj h0 h1 e=>?_,fun i hi=>?_⟩
 ·by_cases e:i=k
  ·subst e
   have a0:=hat i hi
   rw [updF_same,updF_same]
   refine ⟨?_,?_,?_,?_,?_,?_,?_⟩
   all_goals simp [setF]
  ·rw [updF_ne _ _ e,updF_ne _ _ e]
   exact (atOb_set (atOb_set (atOb_set (atOb_set (atOb_set (atOb_set (atOb_set (hat i hi) e (k:=k) Za Za _) e (k:=k) Za Za _) e (k:=k) Za Za _) e (k:=k) Za Za _) e (k:=k) Za Za _) e (k:=k) Za Za _) e (k:=k) Za Za _)
 ·rw [updF_ne _ _ Za]
  exact h.src i Za h2
 ·exact apP062
 ·exact apP064
 ·exact apP063
 ·by_cases e:i=k
  ·subst e
   rw [updF_same,updF_same]
   exact hcp
  ·rw [updF_ne _ _ e,updF_ne _ _ e]
   exact h.cap i Za
theorem CpOb.done {w:World} {ad:Option Addr} {g n:Nat} {x:Nat→Ob} {A0 A:Nat→Option Addr} {C hb:Nat→Nat} (h:CpOb w g n n x A0 A C hb) (ha:0<n→ad=some ⟨g,0,none⟩):ObsAt w ad g n x A C hb:=
 ⟨ha,h.row,h.hold,fun i hi h0=>(h.hlt i hi h0).2,⟨fun i hi h0 e=>Nat.lt_irrefl _ (e▸(h.hlt i hi h0).1),h.inj⟩⟩
theorem apP066 {P:Prop} (h:P:=by
  rcases hk with ⟨h0,rfl⟩|⟨i,hi,h0,rfl⟩
  ·obtain ⟨c,r,_⟩:=h.row h0;exact ⟨Nat.le_refl _,r.lt⟩
  ·exact ⟨Nat.le_of_lt (h.hlt i hi h0).1,(h.hlt i hi h0).2⟩):P:=h
theorem CpOb.rng {w:World} {g n:Nat} {x:Nat→Ob} {A0 A:Nat→Option Addr} {C hb:Nat→Nat} (h:CpOb w g n n x A0 A C hb) {k:Nat} (hk:blkH g n (fun i=>(x i).hn) hb k):g≤k∧k<w.1.size:=by
 exact apP066
structure CpCh (w:World) (g n k:Nat) (x:Nat→Ch) (A0 A:Nat→Option Addr) (C hb:Nat→Nat):Prop where
 row:0<n→∃ c,RowF w g (n*9) c∧∀ i,i<n→atCh c i (x i) (A i) (C i)
 src:∀ i,k≤i→i<n→A i=A0 i
 hold:∀ i,i<k→StrsOwn w (hb i) (hb i+1) (A i) (x i).ob.hn (x i).ob.hs
 hlt:∀ i,i<k→(x i).ob.hn≠0→g<hb i∧hb i<w.1.size
 inj:∀ i j,i<k→j<k→(x i).ob.hn≠0→(x j).ob.hn≠0→hb i=hb j→i=j
theorem CpCh.fr {w w':World} {g n k:Nat} {x:Nat→Ch} {A0 A:Nat→Option Addr} {C hb:Nat→Nat} {P:Nat→Prop} (h:CpCh w g n k x A0 A C hb) (hf:FrP P w w') (hp:∀ q,g≤q→q<w.1.size→¬P q):CpCh w' g n k x A0 A C hb:=
 ⟨fun h0=>by obtain ⟨c,r,e⟩:=h.row h0;exact ⟨c,r.fr hf (hp g Zbt r.lt),e⟩,h.src,fun i hi=>(h.hold i hi).frP hf (fun h0=>⟨hp _ (Nat.le_of_lt (h.hlt i hi h0).1) (h.hlt i hi h0).2,(h.hlt i hi h0).2⟩),fun i hi h0=>⟨(h.hlt i hi h0).1,Nat.lt_of_lt_of_le (h.hlt i hi h0).2 hf.size⟩,h.inj⟩
theorem CpCh.grow {w w':World} {g n k:Nat} {x:Nat→Ch} {A0 A:Nat→Option Addr} {C hb:Nat→Nat} (h:CpCh w g n k x A0 A C hb) (hf:Below w.1.size w w'):CpCh w' g n k x A0 A C hb:=h.fr (FrP.of_below (P:=fun _=>False) hf) (fun _ _ _ h=>h)
theorem CpCh.put {w w1:World} {g n k:Nat} {x:Nat→Ch} {A0 A:Nat→Option Addr} {C hb:Nat→Nat} (h:CpCh w g n k x A0 A C hb) (hk:k<n) (hb1:Below w.1.size w w1) {ad':Option Addr} {cap' b':Nat} (hb':w.1.size≤b') (hlt':(x k).ob.hn≠0→b'<w1.1.size) (ho:StrsOwn w1 b' (b'+1) ad' (x k).ob.hn (x k).ob.hs) :
  CpCh (((((((w1.setCell ⟨g,k*9+2,none⟩ (.string (x k).ob.kind)).setCell ⟨g,k*9+3,none⟩ (.string (x k).ob.name)).setCell ⟨g,k*9+4,none⟩ (.int .i64 (x k).ob.ver)).setCell ⟨g,k*9+5,none⟩ (.int .i64 (x k).ob.born)).setCell ⟨g,k*9+6,none⟩ (.string (x k).ob.text)).setCell ⟨g,k*9+7,none⟩ (.bool (x k).ob.ending)).setCell ⟨g,k*9+8,none⟩ (.slice ad' (x k).ob.hn cap')) g n (k+1) x A0 (updF A k ad') (updF C k cap') (updF hb k b'):=by
 obtain ⟨c,r,hat⟩:=h.row Za
 have hgw:=r.lt
 have F:FrP (fun q=>q=g) w1 (((((((w1.setCell ⟨g,k*9+2,none⟩ (.string (x k).ob.kind)).setCell ⟨g,k*9+3,none⟩ (.string (x k).ob.name)).setCell ⟨g,k*9+4,none⟩ (.int .i64 (x k).ob.ver)).setCell ⟨g,k*9+5,none⟩ (.int .i64 (x k).ob.born)).setCell ⟨g,k*9+6,none⟩ (.string (x k).ob.text)).setCell ⟨g,k*9+7,none⟩ (.bool (x k).ob.ending)).setCell ⟨g,k*9+8,none⟩ (.slice ad' (x k).ob.hn cap')):=by
  iterate 7 refine FrP.setCell (P:=fun q=>q=g) ?_ (by rfl) _
  exact FrP.refl _ _
 refine ⟨fun _=>⟨_,((((((((r.below hb1 hgw).set (o:=k*9+2) Za _).set (o:=k*9+3) Za _).set (o:=k*9+4) Za _).set (o:=k*9+5) Za _).set (o:=k*9+6) Za _).set (o:=k*9+7) Za _).set (o:=k*9+8) Za _),fun i hi=>?_⟩,fun i h1 h2=>?_,fun i hi=>?_,fun i hi h0=>?_,fun i j hi hj h0 h1 e=>?_⟩
 ·by_cases e:i=k
  ·subst e
   have a0:=hat i hi
   rw [updF_same,updF_same]
   refine ⟨?_,?_,?_,?_,?_,?_,?_,?_,?_⟩
   ·exact Eq.trans (by simp [setF]) a0.1
   ·exact Eq.trans (by simp [setF]) a0.2.1
   all_goals simp [setF]
  ·rw [updF_ne _ _ e,updF_ne _ _ e]
   exact (atCh_set (atCh_set (atCh_set (atCh_set (atCh_set (atCh_set (atCh_set (hat i hi) e (k:=k) Za Za _) e (k:=k) Za Za _) e (k:=k) Za Za _) e (k:=k) Za Za _) e (k:=k) Za Za _) e (k:=k) Za Za _) e (k:=k) Za Za _)
 ·rw [updF_ne _ _ Za]
  exact h.src i Za h2
 ·exact apP062
 ·exact apP064
 ·exact apP063
theorem CpCh.done {w:World} {ad:Option Addr} {g n:Nat} {x:Nat→Ch} {A0 A:Nat→Option Addr} {C hb:Nat→Nat} (h:CpCh w g n n x A0 A C hb) (ha:0<n→ad=some ⟨g,0,none⟩):ChsAt w ad g n x A C hb:=
 ⟨ha,h.row,h.hold,fun i hi h0=>(h.hlt i hi h0).2,⟨fun i hi h0 e=>Nat.lt_irrefl _ (e▸(h.hlt i hi h0).1),h.inj⟩⟩
theorem CpCh.rng {w:World} {g n:Nat} {x:Nat→Ch} {A0 A:Nat→Option Addr} {C hb:Nat→Nat} (h:CpCh w g n n x A0 A C hb) {k:Nat} (hk:blkH g n (fun i=>(x i).ob.hn) hb k):g≤k∧k<w.1.size:=by
 exact apP066
theorem skol {β:Type} {n:Nat} (d:β) {p:Nat→β→Prop} (h:∀ i,i<n→∃ x,p i x):∃ f:Nat→β,∀ i,i<n→p i (f i):=by
 have h':∀ i,∃ x,i<n→p i x:=fun i=>by
  by_cases hi:i<n
  ·obtain ⟨x,hx⟩:=h i hi;exact ⟨x,fun _=>hx⟩
  ·exact ⟨d,fun e=>absurd e hi⟩
 obtain ⟨f,hf⟩:=Classical.skolem.1 h'
 exact ⟨f,hf⟩
theorem ObjsIn.src {w:World} {lo hi:Nat} {ad:Option Addr} {n:Nat} {x:Nat→Ob} (h:ObjsIn w lo hi ad n x):∃ (c:Nat→Value) (A:Nat→Option Addr) (C:Nat→Nat),SrcRow w lo hi ad (n*7) c∧(∀ i,i<n→atOb c i (x i) (A i) (C i))∧(∀ i,i<n→StrsIn w lo hi (A i) (x i).hn (x i).hs):=by
 obtain ⟨F,hF⟩:=skol (n:=n) ((none,0):(Option Addr × Nat)) (p:=fun i q=>(∃ b off,ad=some ⟨b,off,none⟩∧lo≤b∧b<hi∧ObCells w b (off+i*7) (x i) q.1 q.2)∧StrsIn w lo hi q.1 (x i).hn (x i).hs) (fun i hi'=>by
  obtain ⟨b,off,ah,ch,e1,e2,e3,e4,e5⟩:=h i hi'
  exact ⟨(ah,ch),⟨b,off,e1,e2,e3,e4⟩,e5⟩)
 have key:∀ i,i<n→∃ b off,ad=some ⟨b,off,none⟩∧lo≤b∧b<hi∧w.cell? ⟨b,off+i*7,none⟩=some (.string (x i).kind)∧w.cell? ⟨b,off+i*7+1,none⟩=some (.string (x i).name)∧w.cell? ⟨b,off+i*7+2,none⟩=some (.int .i64 (x i).ver)∧w.cell? ⟨b,off+i*7+3,none⟩=some (.int .i64 (x i).born)∧w.cell? ⟨b,off+i*7+4,none⟩=some (.string (x i).text)∧w.cell? ⟨b,off+i*7+5,none⟩=some (.bool (x i).ending)∧w.cell? ⟨b,off+i*7+6,none⟩=some (.slice (F i).1 (x i).hn (F i).2):=fun i hi'=>by
  obtain ⟨⟨b,off,e1,e2,e3,e4⟩,_⟩:=hF i hi'
  exact ⟨b,off,e1,e2,e3,e4.c0,e4.c1,e4.c2,e4.c3,e4.c4,e4.c5,e4.c6⟩
 let c:Nat→Value:=fun j=>match ad with
  | some a=>(w.cell? ⟨a.block,a.off+j,none⟩).getD (.int .i64 0)
  | none=>.int .i64 0
 refine ⟨c,fun i=>(F i).1,fun i=>(F i).2,⟨fun j hj=>?_,fun j hj=>?_⟩,fun i hi'=>?_,fun i hi'=>(hF i hi').2⟩
 ·obtain ⟨b,off,e1,e2,e3,f0,f1,f2,f3,f4,f5,f6⟩:=key (j / 7) Za
  subst e1
  rcases (show j % 7=0∨j % 7=1∨j % 7=2∨j % 7=3∨j % 7=4∨j % 7=5∨j % 7=6 by omega) with hr|hr|hr|hr|hr|hr|hr
  ·have ej:off+j=off+j / 7*7:=Za
   have hcj:c j=.string (x (j / 7)).kind:=by
    show (w.cell? ⟨b,off+j,none⟩).getD _=_
    rw [ej,f0];rfl
   exact ⟨b,off,rfl,e2,e3,by rw [hcj,ej];exact f0⟩
  ·have ej:off+j=off+j / 7*7+1:=Za
   have hcj:c j=.string (x (j / 7)).name:=by
    show (w.cell? ⟨b,off+j,none⟩).getD _=_
    rw [ej,f1];rfl
   exact ⟨b,off,rfl,e2,e3,by rw [hcj,ej];exact f1⟩
  ·have ej:off+j=off+j / 7*7+2:=Za
   have hcj:c j=.int .i64 (x (j / 7)).ver:=by
    show (w.cell? ⟨b,off+j,none⟩).getD _=_
    rw [ej,f2];rfl
   exact ⟨b,off,rfl,e2,e3,by rw [hcj,ej];exact f2⟩
  ·have ej:off+j=off+j / 7*7+3:=Za
   have hcj:c j=.int .i64 (x (j / 7)).born:=by
    show (w.cell? ⟨b,off+j,none⟩).getD _=_
    rw [ej,f3];rfl
   exact ⟨b,off,rfl,e2,e3,by rw [hcj,ej];exact f3⟩
  ·have ej:off+j=off+j / 7*7+4:=Za
   have hcj:c j=.string (x (j / 7)).text:=by
    show (w.cell? ⟨b,off+j,none⟩).getD _=_
    rw [ej,f4];rfl
   exact ⟨b,off,rfl,e2,e3,by rw [hcj,ej];exact f4⟩
  ·have ej:off+j=off+j / 7*7+5:=Za
   have hcj:c j=.bool (x (j / 7)).ending:=by
    show (w.cell? ⟨b,off+j,none⟩).getD _=_
    rw [ej,f5];rfl
   exact ⟨b,off,rfl,e2,e3,by rw [hcj,ej];exact f5⟩
  ·have ej:off+j=off+j / 7*7+6:=Za
   have hcj:c j=.slice (F (j / 7)).1 (x (j / 7)).hn (F (j / 7)).2:=by
    show (w.cell? ⟨b,off+j,none⟩).getD _=_
    rw [ej,f6];rfl
   exact ⟨b,off,rfl,e2,e3,by rw [hcj,ej];exact f6⟩
 ·obtain ⟨b,off,e1,e2,e3,f0,f1,f2,f3,f4,f5,f6⟩:=key (j / 7) Za
  subst e1
  rcases (show j % 7=0∨j % 7=1∨j % 7=2∨j % 7=3∨j % 7=4∨j % 7=5∨j % 7=6 by omega) with hr|hr|hr|hr|hr|hr|hr
  ·have ej:off+j=off+j / 7*7:=Za
   have hcj:c j=.string (x (j / 7)).kind:=by
    show (w.cell? ⟨b,off+j,none⟩).getD _=_
    rw [ej,f0];rfl
   rw [hcj];rfl
  ·have ej:off+j=off+j / 7*7+1:=Za
   have hcj:c j=.string (x (j / 7)).name:=by
    show (w.cell? ⟨b,off+j,none⟩).getD _=_
    rw [ej,f1];rfl
   rw [hcj];rfl
  ·have ej:off+j=off+j / 7*7+2:=Za
   have hcj:c j=.int .i64 (x (j / 7)).ver:=by
    show (w.cell? ⟨b,off+j,none⟩).getD _=_
    rw [ej,f2];rfl
   rw [hcj];rfl
  ·have ej:off+j=off+j / 7*7+3:=Za
   have hcj:c j=.int .i64 (x (j / 7)).born:=by
    show (w.cell? ⟨b,off+j,none⟩).getD _=_
    rw [ej,f3];rfl
   rw [hcj];rfl
  ·have ej:off+j=off+j / 7*7+4:=Za
   have hcj:c j=.string (x (j / 7)).text:=by
    show (w.cell? ⟨b,off+j,none⟩).getD _=_
    rw [ej,f4];rfl
   rw [hcj];rfl
  ·have ej:off+j=off+j / 7*7+5:=Za
   have hcj:c j=.bool (x (j / 7)).ending:=by
    show (w.cell? ⟨b,off+j,none⟩).getD _=_
    rw [ej,f5];rfl
   rw [hcj];rfl
  ·have ej:off+j=off+j / 7*7+6:=Za
   have hcj:c j=.slice (F (j / 7)).1 (x (j / 7)).hn (F (j / 7)).2:=by
    show (w.cell? ⟨b,off+j,none⟩).getD _=_
    rw [ej,f6];rfl
   rw [hcj];rfl
 ·obtain ⟨b,off,e1,e2,e3,f0,f1,f2,f3,f4,f5,f6⟩:=key i hi'
  subst e1
  have hc:∀ j v,w.cell? ⟨b,off+j,none⟩=some v→c j=v:=fun j v h=>by
   show (w.cell? ⟨b,off+j,none⟩).getD _=_
   rw [h];rfl
  exact ⟨hc (i*7) _ (by exact f0),hc (i*7+1) _ (by rw [←Nat.add_assoc];exact f1),hc (i*7+2) _ (by rw [←Nat.add_assoc];exact f2),hc (i*7+3) _ (by rw [←Nat.add_assoc];exact f3),hc (i*7+4) _ (by rw [←Nat.add_assoc];exact f4),hc (i*7+5) _ (by rw [←Nat.add_assoc];exact f5),hc (i*7+6) _ (by rw [←Nat.add_assoc];exact f6)⟩
theorem ChgsIn.src {w:World} {lo hi:Nat} {ad:Option Addr} {n:Nat} {x:Nat→Ch} (h:ChgsIn w lo hi ad n x):∃ (c:Nat→Value) (A:Nat→Option Addr) (C:Nat→Nat),SrcRow w lo hi ad (n*9) c∧(∀ i,i<n→atCh c i (x i) (A i) (C i))∧(∀ i,i<n→StrsIn w lo hi (A i) (x i).ob.hn (x i).ob.hs):=by
 obtain ⟨F,hF⟩:=skol (n:=n) ((none,0):(Option Addr × Nat)) (p:=fun i q=>(∃ b off,ad=some ⟨b,off,none⟩∧lo≤b∧b<hi∧ChCells w b (off+i*9) (x i) q.1 q.2)∧StrsIn w lo hi q.1 (x i).ob.hn (x i).ob.hs) (fun i hi'=>by
  obtain ⟨b,off,ah,ch,e1,e2,e3,e4,e5⟩:=h i hi'
  exact ⟨(ah,ch),⟨b,off,e1,e2,e3,e4⟩,e5⟩)
 have key:∀ i,i<n→∃ b off,ad=some ⟨b,off,none⟩∧lo≤b∧b<hi∧w.cell? ⟨b,off+i*9,none⟩=some (.int .i64 (x i).ver)∧w.cell? ⟨b,off+i*9+1,none⟩=some (.bool (x i).gone)∧w.cell? ⟨b,off+i*9+2,none⟩=some (.string (x i).ob.kind)∧w.cell? ⟨b,off+i*9+3,none⟩=some (.string (x i).ob.name)∧w.cell? ⟨b,off+i*9+4,none⟩=some (.int .i64 (x i).ob.ver)∧w.cell? ⟨b,off+i*9+5,none⟩=some (.int .i64 (x i).ob.born)∧w.cell? ⟨b,off+i*9+6,none⟩=some (.string (x i).ob.text)∧w.cell? ⟨b,off+i*9+7,none⟩=some (.bool (x i).ob.ending)∧w.cell? ⟨b,off+i*9+8,none⟩=some (.slice (F i).1 (x i).ob.hn (F i).2):=fun i hi'=>by
  obtain ⟨⟨b,off,e1,e2,e3,e4⟩,_⟩:=hF i hi'
  exact ⟨b,off,e1,e2,e3,e4.c0,e4.c1,e4.c2,e4.c3,e4.c4,e4.c5,e4.c6,e4.c7,e4.c8⟩
 let c:Nat→Value:=fun j=>match ad with
  | some a=>(w.cell? ⟨a.block,a.off+j,none⟩).getD (.int .i64 0)
  | none=>.int .i64 0
 refine ⟨c,fun i=>(F i).1,fun i=>(F i).2,⟨fun j hj=>?_,fun j hj=>?_⟩,fun i hi'=>?_,fun i hi'=>(hF i hi').2⟩
 ·obtain ⟨b,off,e1,e2,e3,f0,f1,f2,f3,f4,f5,f6,f7,f8⟩:=key (j / 9) Za
  subst e1
  rcases (show j % 9=0∨j % 9=1∨j % 9=2∨j % 9=3∨j % 9=4∨j % 9=5∨j % 9=6∨j % 9=7∨j % 9=8 by omega) with hr|hr|hr|hr|hr|hr|hr|hr|hr
  ·have ej:off+j=off+j / 9*9:=Za
   have hcj:c j=.int .i64 (x (j / 9)).ver:=by
    show (w.cell? ⟨b,off+j,none⟩).getD _=_
    rw [ej,f0];rfl
   exact ⟨b,off,rfl,e2,e3,by rw [hcj,ej];exact f0⟩
  ·have ej:off+j=off+j / 9*9+1:=Za
   have hcj:c j=.bool (x (j / 9)).gone:=by
    show (w.cell? ⟨b,off+j,none⟩).getD _=_
    rw [ej,f1];rfl
   exact ⟨b,off,rfl,e2,e3,by rw [hcj,ej];exact f1⟩
  ·have ej:off+j=off+j / 9*9+2:=Za
   have hcj:c j=.string (x (j / 9)).ob.kind:=by
    show (w.cell? ⟨b,off+j,none⟩).getD _=_
    rw [ej,f2];rfl
   exact ⟨b,off,rfl,e2,e3,by rw [hcj,ej];exact f2⟩
  ·have ej:off+j=off+j / 9*9+3:=Za
   have hcj:c j=.string (x (j / 9)).ob.name:=by
    show (w.cell? ⟨b,off+j,none⟩).getD _=_
    rw [ej,f3];rfl
   exact ⟨b,off,rfl,e2,e3,by rw [hcj,ej];exact f3⟩
  ·have ej:off+j=off+j / 9*9+4:=Za
   have hcj:c j=.int .i64 (x (j / 9)).ob.ver:=by
    show (w.cell? ⟨b,off+j,none⟩).getD _=_
    rw [ej,f4];rfl
   exact ⟨b,off,rfl,e2,e3,by rw [hcj,ej];exact f4⟩
  ·have ej:off+j=off+j / 9*9+5:=Za
   have hcj:c j=.int .i64 (x (j / 9)).ob.born:=by
    show (w.cell? ⟨b,off+j,none⟩).getD _=_
    rw [ej,f5];rfl
   exact ⟨b,off,rfl,e2,e3,by rw [hcj,ej];exact f5⟩
  ·have ej:off+j=off+j / 9*9+6:=Za
   have hcj:c j=.string (x (j / 9)).ob.text:=by
    show (w.cell? ⟨b,off+j,none⟩).getD _=_
    rw [ej,f6];rfl
   exact ⟨b,off,rfl,e2,e3,by rw [hcj,ej];exact f6⟩
  ·have ej:off+j=off+j / 9*9+7:=Za
   have hcj:c j=.bool (x (j / 9)).ob.ending:=by
    show (w.cell? ⟨b,off+j,none⟩).getD _=_
    rw [ej,f7];rfl
   exact ⟨b,off,rfl,e2,e3,by rw [hcj,ej];exact f7⟩
  ·have ej:off+j=off+j / 9*9+8:=Za
   have hcj:c j=.slice (F (j / 9)).1 (x (j / 9)).ob.hn (F (j / 9)).2:=by
    show (w.cell? ⟨b,off+j,none⟩).getD _=_
    rw [ej,f8];rfl
   exact ⟨b,off,rfl,e2,e3,by rw [hcj,ej];exact f8⟩
 ·obtain ⟨b,off,e1,e2,e3,f0,f1,f2,f3,f4,f5,f6,f7,f8⟩:=key (j / 9) Za
  subst e1
  rcases (show j % 9=0∨j % 9=1∨j % 9=2∨j % 9=3∨j % 9=4∨j % 9=5∨j % 9=6∨j % 9=7∨j % 9=8 by omega) with hr|hr|hr|hr|hr|hr|hr|hr|hr
  ·have ej:off+j=off+j / 9*9:=Za
   have hcj:c j=.int .i64 (x (j / 9)).ver:=by
    show (w.cell? ⟨b,off+j,none⟩).getD _=_
    rw [ej,f0];rfl
   rw [hcj];rfl
  ·have ej:off+j=off+j / 9*9+1:=Za
   have hcj:c j=.bool (x (j / 9)).gone:=by
    show (w.cell? ⟨b,off+j,none⟩).getD _=_
    rw [ej,f1];rfl
   rw [hcj];rfl
  ·have ej:off+j=off+j / 9*9+2:=Za
   have hcj:c j=.string (x (j / 9)).ob.kind:=by
    show (w.cell? ⟨b,off+j,none⟩).getD _=_
    rw [ej,f2];rfl
   rw [hcj];rfl
  ·have ej:off+j=off+j / 9*9+3:=Za
   have hcj:c j=.string (x (j / 9)).ob.name:=by
    show (w.cell? ⟨b,off+j,none⟩).getD _=_
    rw [ej,f3];rfl
   rw [hcj];rfl
  ·have ej:off+j=off+j / 9*9+4:=Za
   have hcj:c j=.int .i64 (x (j / 9)).ob.ver:=by
    show (w.cell? ⟨b,off+j,none⟩).getD _=_
    rw [ej,f4];rfl
   rw [hcj];rfl
  ·have ej:off+j=off+j / 9*9+5:=Za
   have hcj:c j=.int .i64 (x (j / 9)).ob.born:=by
    show (w.cell? ⟨b,off+j,none⟩).getD _=_
    rw [ej,f5];rfl
   rw [hcj];rfl
  ·have ej:off+j=off+j / 9*9+6:=Za
   have hcj:c j=.string (x (j / 9)).ob.text:=by
    show (w.cell? ⟨b,off+j,none⟩).getD _=_
    rw [ej,f6];rfl
   rw [hcj];rfl
  ·have ej:off+j=off+j / 9*9+7:=Za
   have hcj:c j=.bool (x (j / 9)).ob.ending:=by
    show (w.cell? ⟨b,off+j,none⟩).getD _=_
    rw [ej,f7];rfl
   rw [hcj];rfl
  ·have ej:off+j=off+j / 9*9+8:=Za
   have hcj:c j=.slice (F (j / 9)).1 (x (j / 9)).ob.hn (F (j / 9)).2:=by
    show (w.cell? ⟨b,off+j,none⟩).getD _=_
    rw [ej,f8];rfl
   rw [hcj];rfl
 ·obtain ⟨b,off,e1,e2,e3,f0,f1,f2,f3,f4,f5,f6,f7,f8⟩:=key i hi'
  subst e1
  have hc:∀ j v,w.cell? ⟨b,off+j,none⟩=some v→c j=v:=fun j v h=>by
   show (w.cell? ⟨b,off+j,none⟩).getD _=_
   rw [h];rfl
  exact ⟨hc (i*9) _ (by exact f0),hc (i*9+1) _ (by rw [←Nat.add_assoc];exact f1),hc (i*9+2) _ (by rw [←Nat.add_assoc];exact f2),hc (i*9+3) _ (by rw [←Nat.add_assoc];exact f3),hc (i*9+4) _ (by rw [←Nat.add_assoc];exact f4),hc (i*9+5) _ (by rw [←Nat.add_assoc];exact f5),hc (i*9+6) _ (by rw [←Nat.add_assoc];exact f6),hc (i*9+7) _ (by rw [←Nat.add_assoc];exact f7),hc (i*9+8) _ (by rw [←Nat.add_assoc];exact f8)⟩
theorem TicsIn.src {w:World} {lo hi:Nat} {ad:Option Addr} {n:Nat} {x:Nat→Ti} (h:TicsIn w lo hi ad n x):∃ (c:Nat→Value),SrcRow w lo hi ad (n*5) c∧(∀ i,i<n→atTi c i (x i)):=by
 have hF:∀ i,i<n→(∃ b off,ad=some ⟨b,off,none⟩∧lo≤b∧b<hi∧TiCells w b (off+i*5) (x i)):=h
 have key:∀ i,i<n→∃ b off,ad=some ⟨b,off,none⟩∧lo≤b∧b<hi∧w.cell? ⟨b,off+i*5,none⟩=some (.string (x i).client)∧w.cell? ⟨b,off+i*5+1,none⟩=some (.int .i64 (x i).num)∧w.cell? ⟨b,off+i*5+2,none⟩=some (.string (x i).print)∧w.cell? ⟨b,off+i*5+3,none⟩=some (.int .i64 (x i).code)∧w.cell? ⟨b,off+i*5+4,none⟩=some (.int .i64 (x i).ver):=fun i hi'=>by
  obtain ⟨b,off,e1,e2,e3,e4⟩:=hF i hi'
  exact ⟨b,off,e1,e2,e3,e4.c0,e4.c1,e4.c2,e4.c3,e4.c4⟩
 let c:Nat→Value:=fun j=>match ad with
  | some a=>(w.cell? ⟨a.block,a.off+j,none⟩).getD (.int .i64 0)
  | none=>.int .i64 0
 refine ⟨c,⟨fun j hj=>?_,fun j hj=>?_⟩,fun i hi'=>?_⟩
 ·obtain ⟨b,off,e1,e2,e3,f0,f1,f2,f3,f4⟩:=key (j / 5) Za
  subst e1
  rcases (show j % 5=0∨j % 5=1∨j % 5=2∨j % 5=3∨j % 5=4 by omega) with hr|hr|hr|hr|hr
  ·have ej:off+j=off+j / 5*5:=Za
   have hcj:c j=.string (x (j / 5)).client:=by
    show (w.cell? ⟨b,off+j,none⟩).getD _=_
    rw [ej,f0];rfl
   exact ⟨b,off,rfl,e2,e3,by rw [hcj,ej];exact f0⟩
  ·have ej:off+j=off+j / 5*5+1:=Za
   have hcj:c j=.int .i64 (x (j / 5)).num:=by
    show (w.cell? ⟨b,off+j,none⟩).getD _=_
    rw [ej,f1];rfl
   exact ⟨b,off,rfl,e2,e3,by rw [hcj,ej];exact f1⟩
  ·have ej:off+j=off+j / 5*5+2:=Za
   have hcj:c j=.string (x (j / 5)).print:=by
    show (w.cell? ⟨b,off+j,none⟩).getD _=_
    rw [ej,f2];rfl
   exact ⟨b,off,rfl,e2,e3,by rw [hcj,ej];exact f2⟩
  ·have ej:off+j=off+j / 5*5+3:=Za
   have hcj:c j=.int .i64 (x (j / 5)).code:=by
    show (w.cell? ⟨b,off+j,none⟩).getD _=_
    rw [ej,f3];rfl
   exact ⟨b,off,rfl,e2,e3,by rw [hcj,ej];exact f3⟩
  ·have ej:off+j=off+j / 5*5+4:=Za
   have hcj:c j=.int .i64 (x (j / 5)).ver:=by
    show (w.cell? ⟨b,off+j,none⟩).getD _=_
    rw [ej,f4];rfl
   exact ⟨b,off,rfl,e2,e3,by rw [hcj,ej];exact f4⟩
 ·obtain ⟨b,off,e1,e2,e3,f0,f1,f2,f3,f4⟩:=key (j / 5) Za
  subst e1
  rcases (show j % 5=0∨j % 5=1∨j % 5=2∨j % 5=3∨j % 5=4 by omega) with hr|hr|hr|hr|hr
  ·have ej:off+j=off+j / 5*5:=Za
   have hcj:c j=.string (x (j / 5)).client:=by
    show (w.cell? ⟨b,off+j,none⟩).getD _=_
    rw [ej,f0];rfl
   rw [hcj];rfl
  ·have ej:off+j=off+j / 5*5+1:=Za
   have hcj:c j=.int .i64 (x (j / 5)).num:=by
    show (w.cell? ⟨b,off+j,none⟩).getD _=_
    rw [ej,f1];rfl
   rw [hcj];rfl
  ·have ej:off+j=off+j / 5*5+2:=Za
   have hcj:c j=.string (x (j / 5)).print:=by
    show (w.cell? ⟨b,off+j,none⟩).getD _=_
    rw [ej,f2];rfl
   rw [hcj];rfl
  ·have ej:off+j=off+j / 5*5+3:=Za
   have hcj:c j=.int .i64 (x (j / 5)).code:=by
    show (w.cell? ⟨b,off+j,none⟩).getD _=_
    rw [ej,f3];rfl
   rw [hcj];rfl
  ·have ej:off+j=off+j / 5*5+4:=Za
   have hcj:c j=.int .i64 (x (j / 5)).ver:=by
    show (w.cell? ⟨b,off+j,none⟩).getD _=_
    rw [ej,f4];rfl
   rw [hcj];rfl
 ·obtain ⟨b,off,e1,e2,e3,f0,f1,f2,f3,f4⟩:=key i hi'
  subst e1
  have hc:∀ j v,w.cell? ⟨b,off+j,none⟩=some v→c j=v:=fun j v h=>by
   show (w.cell? ⟨b,off+j,none⟩).getD _=_
   rw [h];rfl
  exact ⟨hc (i*5) _ (by exact f0),hc (i*5+1) _ (by rw [←Nat.add_assoc];exact f1),hc (i*5+2) _ (by rw [←Nat.add_assoc];exact f2),hc (i*5+3) _ (by rw [←Nat.add_assoc];exact f3),hc (i*5+4) _ (by rw [←Nat.add_assoc];exact f4)⟩
theorem SrcRow.below {w w':World} {B lo hi:Nat} {ad:Option Addr} {m:Nat} {c:Nat→Value} (h:SrcRow w lo hi ad m c) (hb:Below B w w') (hB:hi≤B):SrcRow w' lo hi ad m c:=
 ⟨fun j hj=>by
  obtain ⟨b,off,e1,e2,e3,e4⟩:=h.at_ j hj
  exact ⟨b,off,e1,e2,e3,(hb.cell (p:=⟨b,off+j,none⟩) (Nat.lt_of_lt_of_le e3 hB)).trans e4⟩,h.one⟩
theorem copyObjs_any (n:Nat) (x:Nat→Ob) (a:Option Addr) (c:Nat) (w:World) (lo hi:Nat) (hhi:hi≤w.1.size) (hn:(n:Int)≤1099511627776) (hf:∀ i,i<n→ObFit (x i)) (hc:ObjsIn w lo hi a n x) :
  Calls Tryz.prog 92 #[.slice a n c] w fun e w'=>∃ ad' cap' g A C hb,e=.returned (.slice ad' n cap')∧(CapOk n ad' cap'∧∀ i,i<n→CapOk (x i).hn (A i) (C i))∧ObsAt w' ad' g n x A C hb∧(∀ q,blkH g n (fun i=>(x i).hn) hb q→w.1.size≤q)∧Below w.1.size w w':=by
 obtain ⟨co,Ao,Co,so,ato,sto⟩:=hc.src
 have SO:=hid so
 have AO:=hid ato
 have HO:=hid sto
 have F4:=hid hf
 clear so ato sto hc hf
 go_enter Tryz.func92,Tryz.ntmps92
 go_wp2_with fail
 refine (copyObs_row n co a c _ lo hi hhi Za SO.out).mono ?_
 rintro e w1 ⟨ad1,d1,rfl,hcp1,hr1,hb1⟩
 have HCP:=hid hcp1
 clear hcp1
 have HR1:=hid hr1
 have B1:=hb1
 have HA1:Hid (0<n→ad1=some ⟨w.1.size,0,none⟩):=fun h0=>(HR1.out h0).1
 have cp0:CpOb w1 w.1.size n 0 x Ao Ao Co (fun _=>0):=
  ⟨fun h0=>⟨co,(HR1.out h0).2,AO.out⟩,fun _ _ _=>rfl,fun i hi=>absurd hi (Nat.not_lt_zero _),fun i hi=>absurd hi (Nat.not_lt_zero _),fun i j hi=>absurd hi (Nat.not_lt_zero _),fun i hi=>absurd hi (Nat.not_lt_zero _)⟩
 clear hr1 hb1
 go_wp2
 go_loopw [10] (fun i wr=>∃ (k:Nat) (A:Nat→Option Addr) (C hb:Nat→Nat),k≤n∧i=.int .i64 k∧Below w.1.size w wr∧CpOb wr w.1.size n k x Ao A C hb) (fun i _=>n-(intOf i).toNat)
 case atStart=>exact ⟨0,_,_,_,Nat.zero_le _,rfl,B1,cp0⟩
 case round=>
  obtain ⟨k,A,C,hb,hk,rfl,b0,cp⟩:=hrel
  clear cp0
  by_cases hkn:k<n
  ·obtain ⟨c,rr,hat⟩:=cp.row Za
   have hA:=HA1.out Za
   subst hA
   obtain ⟨t0,t1,t2,t3,t4,t5,t6⟩:=hat k hkn
   have d0:=(rr.cell (k*7) Za).trans (congrArg some t0)
   have d1:=(rr.cell (k*7+1) Za).trans (congrArg some t1)
   have d2:=(rr.cell (k*7+2) Za).trans (congrArg some t2)
   have d3:=(rr.cell (k*7+3) Za).trans (congrArg some t3)
   have d4:=(rr.cell (k*7+4) Za).trans (congrArg some t4)
   have d5:=(rr.cell (k*7+5) Za).trans (congrArg some t5)
   have d6:=(rr.cell (k*7+6) Za).trans (congrArg some t6)
   have hsrc:=HO.out k hkn
   rw [←cp.src k Zbt hkn] at hsrc
   have HSR:=hid hsrc
   have hfk:((x k).hn:Int)≤8796093022208:=(F4.out k hkn).h
   have CP:=hid cp
   have RR:=hid rr
   have hwz:w.1.size<wr.1.size:=rr.lt
   clear t0 t1 t2 t3 t4 t5 t6 hsrc cp rr hat
   go_wp2_with (go_at_call 150;go_must (refine (copyOb_own (x k) (A k) (C k) _ lo hi Zc hfk (by exact HSR.out.below (b0.alloc b0.size _) hhi)).mono ?_;rintro e w2 ⟨ad',cap',b',rfl,hcp',hb',hlt',ho',hb2⟩;have HCQ:=hid hcp';clear hcp';have hb3:Below wr.1.size wr w2:=((below_alloc _ _).trans (hb2.mono Zd));have rg:=RR.out.below hb3 RR.out.lt;have s0:=rg.cell (k*7) Za;have s1:=rg.cell (k*7+1) Za;have s2:=rg.cell (k*7+2) Za;have s3:=rg.cell (k*7+3) Za;have s4:=rg.cell (k*7+4) Za;have s5:=rg.cell (k*7+5) Za;have s6:=rg.cell (k*7+6) Za;have sf:=rg.free;have HB3:=hid hb3;have HOO:=hid ho';have HLT:=hid hlt';have HBP:=hid hb';clear rg hb3 ho' hlt' hb' hb2))
   have hbb:wr.1.size≤b':=by have:=HBP.out;simp at this;omega
   have CPP:=hid (CP.out.put hkn HB3.out (cap':=cap') hbb HLT.out HOO.out HCQ.out)
   have hz3:=HB3.out.size
   clear s0 s1 s2 s3 s4 s5 s6 sf d0 d1 d2 d3 d4 d5 d6
   go_roundw
   case rel=>
    refine ⟨k+1,_,_,_,Za,by go_num,?_,CPP.out⟩
    iterate 7 refine Below.setCell ?_ Zd _
    exact b0.trans (HB3.out.mono Za)
   case measure=>simp [intOf];omega
  ·have hke:k=n:=Za
   subst hke
   have CPO:=hid cp
   clear cp
   go_wp2
   go_ret
   exact ⟨ad1,d1,w.1.size,A,C,hb,rfl,⟨HCP.out,CPO.out.cap⟩,CPO.out.done HA1.out,fun q hq=>(CPO.out.rng hq).1,b0⟩
theorem copyCh_own (x:Ch) (ad:Option Addr) (cap:Nat) (w:World) (lo hi:Nat) (hhi:hi≤w.1.size) (hl:(x.ob.hn:Int)≤8796093022208) (hc:StrsIn w lo hi ad x.ob.hn x.ob.hs) :
  Calls Tryz.prog 94 #[.agg #[.int .i64 x.ver,.bool x.gone,.string x.ob.kind,.string x.ob.name,.int .i64 x.ob.ver,.int .i64 x.ob.born,.string x.ob.text,.bool x.ob.ending,.slice ad x.ob.hn cap]] w fun e w'=>∃ ad' cap' b',e=.returned (.agg #[.int .i64 x.ver,.bool x.gone,.string x.ob.kind,.string x.ob.name,.int .i64 x.ob.ver,.int .i64 x.ob.born,.string x.ob.text,.bool x.ob.ending,.slice ad' x.ob.hn cap'])∧w.1.size≤b'∧(x.ob.hn≠0→b'<w'.1.size)∧StrsOwn w' b' (b'+1) ad' x.ob.hn x.ob.hs∧Below w.1.size w w':=by
 have HC:=hid hc
 clear hc
 go_enter Tryz.func94,Tryz.ntmps94
 go_wp2_with fail
 refine (copyOb_own x.ob ad cap _ lo hi Zc hl (by exact HC.out.below ((below_alloc _ _).alloc Zd _) hhi)).mono ?_
 rintro e w2 ⟨ad',cap',b',rfl,_,hb',hlt',ho',hb2⟩
 have hB2:Below w.1.size w w2:=((below_alloc _ _).alloc Zd _).trans (hb2.mono Zc)
 have hz2:w.1.size+1<w2.1.size:=by have:=hb2.size;simp at this;omega
 obtain ⟨A0,A1,F0,F1⟩:=two_cell' hb2
 have u0:=A0 0
 have u1:=A0 1
 have u2:=A0 2
 have u3:=A0 3
 have u4:=A0 4
 have u5:=A0 5
 have u6:=A0 6
 have u7:=A0 7
 have u8:=A0 8
 have v0:=A1 0
 have v1:=A1 1
 have v2:=A1 2
 have v3:=A1 3
 have v4:=A1 4
 have v5:=A1 5
 have v6:=A1 6
 have v7:=A1 7
 have v8:=A1 8
 simp only [List.getElem?_toArray,List.getElem?_cons_succ,List.getElem?_cons_zero] at u0 u1 u2 u3 u4 u5 u6 u7 u8 v0 v1 v2 v3 v4 v5 v6 v7 v8
 have HO:=hid ho'
 have HL:=hid hlt'
 have HBB:w.1.size+2≤b':=by have:=hb';simp at this;omega
 clear ho' hlt' hb' A0 A1 hb2
 go_wp2
 refine bodyPost_ret (v:=.agg #[.int .i64 x.ver,.bool x.gone,.string x.ob.kind,.string x.ob.name,.int .i64 x.ob.ver,.int .i64 x.ob.born,.string x.ob.text,.bool x.ob.ending,.slice ad' x.ob.hn cap']) (by simp [results,Tryz.results94,go_sem,v0,v1,v2,v3,v4,v5,v6,v7,v8]) rfl ⟨ad',cap',b',rfl,Za,fun h0=>by simpa using HL.out h0,?_,?_⟩
 ·refine HO.out.frP (P:=fun q=>q=w.1.size∨q=w.1.size+1) ?_ (fun h0=>⟨Za,HL.out h0⟩)
  iterate 16 refine FrP.setCell (P:=fun q=>q=w.1.size∨q=w.1.size+1) ?_ Zd _
  exact FrP.refl _ _
 ·iterate 16 refine Below.setCell ?_ Zd _
  exact hB2
def vec (l:List Value):Nat→Value:=fun j=>l.getD j (.int .i64 0)
theorem RowF.new {w w1:World} {l:List Value} {t:TypeId} (hb:Below (w.alloc (.cells l.toArray t)).1.size (w.alloc (.cells l.toArray t)) w1):RowF w1 w.1.size l.length (vec l):=
 ⟨by have:=hb.size;simp at this;omega,fun j=>by rw [hb.frozen (p:=⟨w.1.size,j,none⟩) Zd];simp,fun j hj=>by
  rw [box_cell hb j]
  simp [vec,hj]⟩
theorem RowF.vset {w:World} {g m:Nat} {l l':List Value} {o:Nat} {v:Value} (h:RowF w g m (vec l)) (ho:o<m) (e:∀ j,j<m→vec l' j=setF (vec l) o v j):RowF (w.setCell ⟨g,o,none⟩ v) g m (vec l'):=
 ⟨(h.set ho v).lt,(h.set ho v).free,fun j hj=>by rw [(h.set ho v).cell j hj,e j hj]⟩
theorem bk_vec {W:World} {B:Nat} {v0 v1 v2 v3 v4:Value} (h:RowF W B 5 (vec [v0,v1,v2,v3,v4])) :
  W.cell? ⟨B,0,none⟩=some v0∧W.cell? ⟨B,1,none⟩=some v1∧W.cell? ⟨B,2,none⟩=some v2∧W.cell? ⟨B,3,none⟩=some v3∧W.cell? ⟨B,4,none⟩=some v4:=
 ⟨h.cell 0 Za,h.cell 1 Za,h.cell 2 Za,h.cell 3 Za,h.cell 4 Za⟩
theorem apP068 {P:Prop} (h:P:=by
  rcases (show j=0∨j=1∨j=2∨j=3∨j=4 by omega) with rfl|rfl|rfl|rfl|rfl<;>rfl):P:=h
theorem set_v2 (v0 v1 v2 v3 v4 v:Value):∀ j,j<5→vec [v0,v1,v,v3,v4] j=setF (vec [v0,v1,v2,v3,v4]) 2 v j:=fun j hj=>by
 exact apP068
theorem set_v3 (v0 v1 v2 v3 v4 v:Value):∀ j,j<5→vec [v0,v1,v2,v,v4] j=setF (vec [v0,v1,v2,v3,v4]) 3 v j:=fun j hj=>by
 exact apP068
theorem set_v4 (v0 v1 v2 v3 v4 v:Value):∀ j,j<5→vec [v0,v1,v2,v3,v] j=setF (vec [v0,v1,v2,v3,v4]) 4 v j:=fun j hj=>by
 exact apP068
theorem setCell_id {w:World} {b o:Nat} {v:Value} (h:w.cell? ⟨b,o,none⟩=some v):w.setCell ⟨b,o,none⟩ v=w:=by
 rw [Go.Sort.setCell_eq]
 refine Go.Sort.mapBlock_id _ _ _ (fun c e fr hc=>?_)
 have:c[o]? = some v:=by simpa [World.cell?,hc] using h
 obtain ⟨h1,h2⟩:=Array.getElem?_eq_some_iff.1 this
 apply Array.ext
 ·simp
 ·intro j h3 h4
  rw [Array.getElem_setIfInBounds]
  split
  ·next e=>subst e;exact h2.symm
  ·rfl
structure CapB (x:Bk) (p:Pl) (d1 d2 d3:Nat):Prop where
 o:CapOk x.on p.a1 d1
 os:∀ i,i<x.on→CapOk (x.os i).hn (p.A1 i) (p.C1 i)
 h:CapOk x.hn p.a2 d2
 t:CapOk x.tn p.a3 d3
theorem bookCopy_any (x:Bk) (a1 a2 a3:Option Addr) (c1 c2 c3:Nat) (w:World) (lo hi:Nat) (hhi:hi≤w.1.size) (hf:BkFit x) (hc:BkIn w lo hi x a1 a2 a3) :
  Calls Tryz.prog 42 #[.agg #[.int .i64 x.now,.int .i64 x.floor,.slice a1 x.on c1,.slice a2 x.hn c2,.slice a3 x.tn c3]] w fun e w'=>∃ (p:Pl) (d1 d2 d3:Nat),e=.returned (.agg #[.int .i64 x.now,.int .i64 x.floor,.slice p.a1 x.on d1,.slice p.a2 x.hn d2,.slice p.a3 x.tn d3])∧CapB x p d1 d2 d3∧BkAt w' x p∧(∀ k,blkB p x k→w.1.size≤k)∧Below w.1.size w w':=by
 obtain ⟨f1,f2,f3,f4,f5,f6⟩:=hf
 have HCO:=hid hc.o
 obtain ⟨cc,Ac,Cc,sc,atc,stc⟩:=hc.h.src
 obtain ⟨ct,st,att⟩:=hc.t.src
 have SC:=hid sc
 have STT:=hid st
 have AC:=hid atc
 have AT:=hid att
 have HC:=hid stc
 have F4:=hid f4
 have F5h:=hid f5
 clear sc st atc att stc hc f4 f5 f6
 have hbA:∀ o1 o2,Below w.1.size w ((w.alloc o1).alloc o2):=fun o1 o2=>((Below.refl _ _).alloc Zbt _).alloc Zd _
 go_enter Tryz.func42,Tryz.ntmps42
 go_wp2_with fail
 refine (copyObjs_any x.on x.os a1 c1 _ lo hi Zc Za F4.out (HCO.out.below (hbA _ _) hhi)).mono ?_
 rintro e w1 ⟨ad1,d1,g1,A,C,hb,rfl,hcp1,at1,hq1,hb1⟩
 have HCP1:=hid hcp1
 clear hcp1
 have B1:Below w.1.size w w1:=(hbA _ _).trans (hb1.mono Zc)
 have z1:w.1.size+2≤w1.1.size:=by have:=hb1.size;simp at this;omega
 have rz:RowF w1 (w.alloc (.cells #[.int .i64 x.now,.int .i64 x.floor,.slice a1 x.on c1,.slice a2 x.hn c2,.slice a3 x.tn c3] 35)).1.size 5 (vec [.int .i64 0,.int .i64 0,.slice none 0 0,.slice none 0 0,.slice none 0 0]):=RowF.new (w:=w.alloc (.cells #[.int .i64 x.now,.int .i64 x.floor,.slice a1 x.on c1,.slice a2 x.hn c2,.slice a3 x.tn c3] 35)) (l:=[.int .i64 0,.int .i64 0,.slice none 0 0,.slice none 0 0,.slice none 0 0]) (t:=35) hb1
 have rb:RowF w1 w.1.size 5 (vec [.int .i64 x.now,.int .i64 x.floor,.slice a1 x.on c1,.slice a2 x.hn c2,.slice a3 x.tn c3]):=RowF.new (w:=w) (l:=[.int .i64 x.now,.int .i64 x.floor,.slice a1 x.on c1,.slice a2 x.hn c2,.slice a3 x.tn c3]) (t:=35) (w1:=w1) (by have h:=(below_alloc (w.alloc (.cells #[.int .i64 x.now,.int .i64 x.floor,.slice a1 x.on c1,.slice a2 x.hn c2,.slice a3 x.tn c3] 35)) (.cells #[.int .i64 0,.int .i64 0,.slice none 0 0,.slice none 0 0,.slice none 0 0] 35)).trans (hb1.mono Zd);simpa using h)
 simp only [World.size_alloc] at rz hq1
 have RZ:=hid rz
 have RB:=hid rb
 have AT1:=hid at1
 have HQ1:=hid hq1
 obtain ⟨p0,p1,p2,p3,p4⟩:=bk_vec rb
 have pf:=rb.free
 clear rz rb at1 hq1 hb1 hbA
 go_wp2_with fail
 have rb2:RowF (w1.setCell ⟨w.1.size,2,none⟩ (.slice ad1 x.on d1)) w.1.size 5 (vec [.int .i64 x.now,.int .i64 x.floor,.slice ad1 x.on d1,.slice a2 x.hn c2,.slice a3 x.tn c3]):=RB.out.vset Za (set_v2 _ _ _ _ _ _)
 have F0:FrP (fun q=>q=w.1.size) w1 (w1.setCell ⟨w.1.size,2,none⟩ (.slice ad1 x.on d1)):=FrP.setCell (P:=fun q=>q=w.1.size) (FrP.refl _ _) (by rfl) _
 have rz2:=RZ.out.fr F0 Za
 have b0:Below w.1.size w (w1.setCell ⟨w.1.size,2,none⟩ (.slice ad1 x.on d1)):=B1.setCell Zbt _
 have z0:w.1.size+2≤(w1.setCell ⟨w.1.size,2,none⟩ (.slice ad1 x.on d1)).1.size:=by simpa using z1
 have at2:=AT1.out.fr F0 (fun q hq e=>by have:=HQ1.out q hq;omega)
 generalize hV:w1.setCell ⟨w.1.size,2,none⟩ (.slice ad1 x.on d1)=V at *
 have CPO:=hid at2
 have RBB:=hid rb2
 have RZZ:=hid rz2
 clear RB RZ B1 F0 z1 p0 p1 p2 p3 p4 pf AT1 rb2 rz2 at2 hV
 obtain ⟨p0,p1,p2,p3,p4⟩:=bk_vec RBB.out
 have pf:=RBB.out.free
 refine (copyChs_row x.hn cc a2 c2 _ lo hi Za Za (SC.out.below b0 hhi)).mono ?_
 rintro e w5 ⟨ad2,d2,rfl,hcp2,hr5,hb5⟩
 have HCP2:=hid hcp2
 clear hcp2
 have z5:=hb5.size
 have hVz:w.1.size<V.1.size:=Za
 have rb5:RowF (w5.setCell ⟨w.1.size,3,none⟩ (.slice ad2 x.hn d2)) w.1.size 5 (vec [.int .i64 x.now,.int .i64 x.floor,.slice ad1 x.on d1,.slice ad2 x.hn d2,.slice a3 x.tn c3]):=(RBB.out.below hb5 hVz).vset Za (set_v3 _ _ _ _ _ _)
 have F5:FrP (fun q=>q=w.1.size) w5 (w5.setCell ⟨w.1.size,3,none⟩ (.slice ad2 x.hn d2)):=FrP.setCell (P:=fun q=>q=w.1.size) (FrP.refl _ _) (by rfl) _
 have rz5:=(RZZ.out.below hb5 Za).fr F5 Za
 have cp5:CpCh (w5.setCell ⟨w.1.size,3,none⟩ (.slice ad2 x.hn d2)) V.1.size x.hn 0 x.hs Ac Ac Cc (fun _=>0):=
  ⟨fun h0=>⟨cc,(hr5 h0).2.fr F5 Za,AC.out⟩,fun _ _ _=>rfl,fun i hi=>absurd hi (Nat.not_lt_zero _),fun i hi=>absurd hi (Nat.not_lt_zero _),fun i j hi=>absurd hi (Nat.not_lt_zero _)⟩
 have FV:FrP (fun q=>q=w.1.size) V (w5.setCell ⟨w.1.size,3,none⟩ (.slice ad2 x.hn d2)):=(FrP.of_below hb5).trans F5
 have HA2:Hid (0<x.hn→ad2=some ⟨V.1.size,0,none⟩):=fun h0=>(hr5 h0).1
 have q3:=(RBB.out.below hb5 hVz).cell 3 Za
 have qf:=(RBB.out.below hb5 hVz).free
 clear p0 p1 p2 p3 p4 pf hr5 F5 RBB RZZ
 go_wp2
 clear q3 qf
 go_loopw [16] (fun i wr=>∃ (k:Nat) (A:Nat→Option Addr) (C hb:Nat→Nat),k≤x.hn∧i=.int .i64 k∧FrP (fun q=>q=w.1.size) V wr∧RowF wr w.1.size 5 (vec [.int .i64 x.now,.int .i64 x.floor,.slice ad1 x.on d1,.slice ad2 x.hn d2,.slice a3 x.tn c3])∧RowF wr (w.1.size+1) 5 (vec [.int .i64 0,.int .i64 0,.slice none 0 0,.slice none 0 0,.slice none 0 0])∧CpCh wr V.1.size x.hn k x.hs Ac A C hb) (fun i _=>x.hn-(intOf i).toNat)
 case atStart=>exact ⟨0,_,_,_,Nat.zero_le _,rfl,FV,rb5,rz5,cp5⟩
 case round=>
  obtain ⟨k,A2,C2,hb2',hk2,rfl,f0,rb,rz,cp⟩:=hrel
  clear FV rb5 rz5 cp5
  have zv:=f0.size
  have bV:Below w.1.size w wr:=b0.trans (f0.below (fun q hq=>by omega) Za)
  by_cases hkn:k<x.hn
  ·obtain ⟨c,rr,hat⟩:=cp.row Za
   have hA:=HA2.out Za
   subst hA
   obtain ⟨t0,t1,t2,t3,t4,t5,t6,t7,t8⟩:=hat k hkn
   have d0:=(rr.cell (k*9) Za).trans (congrArg some t0)
   have d1:=(rr.cell (k*9+1) Za).trans (congrArg some t1)
   have d2:=(rr.cell (k*9+2) Za).trans (congrArg some t2)
   have d3:=(rr.cell (k*9+3) Za).trans (congrArg some t3)
   have d4:=(rr.cell (k*9+4) Za).trans (congrArg some t4)
   have d5:=(rr.cell (k*9+5) Za).trans (congrArg some t5)
   have d6:=(rr.cell (k*9+6) Za).trans (congrArg some t6)
   have d7:=(rr.cell (k*9+7) Za).trans (congrArg some t7)
   have d8:=(rr.cell (k*9+8) Za).trans (congrArg some t8)
   have hsrc:=HC.out k hkn
   rw [←cp.src k Zbt hkn] at hsrc
   have HSR:=hid hsrc
   have hfk:((x.hs k).ob.hn:Int)≤8796093022208:=(F5h.out k hkn).h
   have RBB:=hid rb
   have RZZ:=hid rz
   have CP:=hid cp
   have RR:=hid rr
   obtain ⟨p0,p1,p2,p3,p4⟩:=bk_vec rb
   clear t0 t1 t2 t3 t4 t5 t6 t7 t8 hsrc rb rz cp rr hat
   go_wp2
   have hwz:w.1.size<wr.1.size:=Za
   have vz:V.1.size<wr.1.size:=RR.out.lt
   go_region_with (go_at_call 94;go_must (refine (copyCh_own (x.hs k) (A2 k) (C2 k) _ lo hi Zc hfk (by exact HSR.out.below ((bV.alloc bV.size _).drew) hhi)).mono ?_;rintro e w2 ⟨ad',cap',b',rfl,hb',hlt',ho',hb2⟩;have hb3:Below wr.1.size wr w2:=(((below_alloc _ _).drew).trans (hb2.mono Zd));have r3:=RBB.out.below hb3 hwz;obtain ⟨q0,q1,q2,q3,q4⟩:=bk_vec r3;have rg:=RR.out.below hb3 RR.out.lt;have s0:=rg.cell (k*9) Za;have s1:=rg.cell (k*9+1) Za;have s2:=rg.cell (k*9+2) Za;have s3:=rg.cell (k*9+3) Za;have s4:=rg.cell (k*9+4) Za;have s5:=rg.cell (k*9+5) Za;have s6:=rg.cell (k*9+6) Za;have s7:=rg.cell (k*9+7) Za;have s8:=rg.cell (k*9+8) Za;have sf:=rg.free;have HB3:=hid hb3;have HOO:=hid ho';have HLT:=hid hlt';have HBP:=hid hb';clear r3 rg hb3 ho' hlt' hb' hb2))
   all_goals
    have hbb:wr.1.size≤b':=by have:=HBP.out;simp at this;omega
    have CPP:=hid (CP.out.put hkn HB3.out (cap':=cap') hbb HLT.out HOO.out)
    have hz3:=HB3.out.size
    have e0:w2.cell? ⟨V.1.size,k*9,none⟩=some (.int .i64 (x.hs k).ver):=(HB3.out.cell (p:=⟨V.1.size,k*9,none⟩) vz).trans d0
    have e1:w2.cell? ⟨V.1.size,k*9+1,none⟩=some (.bool (x.hs k).gone):=(HB3.out.cell (p:=⟨V.1.size,k*9+1,none⟩) vz).trans d1
    rw [setCell_id e0,setCell_id e1]
    clear p0 p1 p2 p3 p4 q0 q1 q2 q3 q4 s0 s1 s2 s3 s4 s5 s6 s7 s8 sf d0 d1 d2 d3 d4 d5 d6 d7 d8
    go_wp2
    go_roundw
    case rel=>
     refine ⟨k+1,_,_,_,Za,by go_num,?_,RowF.fr (P:=fun q=>q=V.1.size) (RBB.out.below HB3.out hwz) ?_ Za,RowF.fr (P:=fun q=>q=V.1.size) (RZZ.out.below HB3.out Za) ?_ Za,CPP.out⟩
     ·iterate 7 refine FrP.setNew ?_ (Or.inl Zbt) _
      exact f0.trans (FrP.of_below HB3.out)
     ·iterate 7 refine FrP.setCell (P:=fun q=>q=V.1.size) ?_ (by rfl) _
      exact FrP.refl _ _
     ·iterate 7 refine FrP.setCell (P:=fun q=>q=V.1.size) ?_ (by rfl) _
      exact FrP.refl _ _
    case measure=>simp [intOf];omega
  ·have hke:k=x.hn:=Za
   subst hke
   have CPC:=hid cp
   have CPO2:=hid (CPO.out.fr f0 (fun q h1 h2=>by have:=HQ1.out q h1;omega))
   have RBB:=hid rb
   have RZZ:=hid rz
   obtain ⟨p0,p1,p2,p3,p4⟩:=bk_vec rb
   have pf:=rb.free
   clear rb rz cp
   go_wp2_with fail
   refine (copyTis_row x.tn ct a3 c3 _ lo hi Za Za (STT.out.below bV hhi)).mono ?_
   rintro e w7 ⟨ad3,d3,rfl,hcp3,hr7,hb7⟩
   have HCP3:=hid hcp3
   clear hcp3
   have z7:=hb7.size
   have hwz:w.1.size<wr.1.size:=Za
   have R7:=hid ((RBB.out.below hb7 hwz).vset (o:=4) (v:=(.slice ad3 x.tn d3)) (l':=[.int .i64 x.now,.int .i64 x.floor,.slice ad1 x.on d1,.slice ad2 x.hn d2,.slice ad3 x.tn d3]) Za (set_v4 _ _ _ _ _ _))
   have HR7:=hid hr7
   obtain ⟨q0,q1,q2,q3,q4⟩:=bk_vec (RBB.out.below hb7 hwz)
   have qf:=(RBB.out.below hb7 hwz).free
   have rz7:=RZZ.out.below hb7 Za
   obtain ⟨y0,y1,y2,y3,y4⟩:=bk_vec rz7
   have yf:=rz7.free
   have CO7:=hid (CPO2.out.grow hb7)
   have CC7:=hid (CPC.out.grow hb7)
   have BV7:=hid (bV.trans (hb7.mono bV.size))
   clear p0 p1 p2 p3 p4 pf hr7 rz7 RBB RZZ
   go_wp2
   have hlt7:w.1.size+1<w7.1.size:=Za
   refine bodyPost_ret (v:=.agg #[.int .i64 x.now,.int .i64 x.floor,.slice ad1 x.on d1,.slice ad2 x.hn d2,.slice ad3 x.tn d3]) (by simp [results,Tryz.results42,go_sem,y0,y1,y2,y3,y4]) rfl ⟨⟨ad1,ad2,ad3,g1,V.1.size,wr.1.size,A,C,hb,A2,C2,hb2'⟩,d1,d2,d3,rfl,⟨HCP1.out.1,HCP1.out.2,HCP2.out,HCP3.out⟩,?_,?_,?_⟩
   ·have FF:∀ W,FrP (fun q=>q=w.1.size∨q=w.1.size+1) w7 W→BkAt W x ⟨ad1,ad2,ad3,g1,V.1.size,wr.1.size,A,C,hb,A2,C2,hb2'⟩:=fun W F=>
     ⟨CO7.out.fr F (fun q h1 h2=>by have:=HQ1.out q h1;omega),(CC7.out.fr F (fun q h1 _ h2=>by omega)).done HA2.out,⟨fun h0=>(HR7.out h0).1,fun h0=>⟨ct,(HR7.out h0).2.fr F Za,AT.out⟩⟩,
      fun k h1 h2=>by have e1:=(show w.1.size+2≤k∧k<V.1.size from ⟨HQ1.out k h1,CPO.out.blt h1⟩);have e2:=CPC.out.rng h2;omega,
      fun k h1 h2=>by have e1:=(show w.1.size+2≤k∧k<V.1.size from ⟨HQ1.out k h1,CPO.out.blt h1⟩);have e2:k=wr.1.size:=h2.2;omega,
      fun k h1 h2=>by have e1:=CPC.out.rng h1;have e2:k=wr.1.size:=h2.2;omega⟩
    refine FF _ ?_
    iterate 6 refine FrP.setCell (P:=fun q=>q=w.1.size∨q=w.1.size+1) ?_ Zd _
    exact FrP.refl _ _
   ·intro k hk
    rcases hk with h1|h1|h1
    ·have e1:=(show w.1.size+2≤k∧k<V.1.size from ⟨HQ1.out k h1,CPO.out.blt h1⟩)
     omega
    ·have e1:=CPC.out.rng h1
     omega
    ·have e1:k=wr.1.size:=h1.2
     omega
   ·iterate 6 refine Below.setCell ?_ Zd _
    exact BV7.out
end Go.Proofs.YtllmmkchokkaaaaGreatDoor
