import Derived.Test.YtokkbdlofbdljaaGreatGzf
namespace Go.Proofs.YtokkbdlofbdljaaGreat
open Go.RowKit
set_option maxHeartbeats 8000000
theorem bx_new {w w1:World} {c:Array Value} {t:TypeId} (hb:Below (w.alloc (.cells c t)).1.size (w.alloc (.cells c t)) w1):Bx w1 w.1.size c:=(Bx.new w c t).below hb (by simp)
theorem Bx.belowS {w w1:World} {b:Nat} {c:Array Value} (h:Bx w b c) (hb:Below w.1.size w w1):Bx w1 b c:=h.below hb h.lt
theorem RcIn.cells {w w':World} {lo hi:Nat} {r:Rc} {A:RcA} (h:RcIn w lo hi r A) (hc:∀ q o,lo≤q→q<hi→w'.cell? ⟨q,o,none⟩=w.cell? ⟨q,o,none⟩):RcIn w' lo hi r A:=by
 have s:∀ (ad:Option Addr) (n:Nat) (x:Nat→Sl),SlsIn w lo hi ad n x→SlsIn w' lo hi ad n x:=fun ad n x hx i hi'=>by
  obtain ⟨b,off,e1,e2,e3,e4⟩:=hx i hi'
  exact ⟨b,off,e1,e2,e3,⟨(hc _ _ e2 e3).trans e4.c0,(hc _ _ e2 e3).trans e4.c1⟩⟩
 have n:∀ (ad:Option Addr) (n:Nat) (x:Nat→Int),IntsIn w lo hi ad n x→IntsIn w' lo hi ad n x:=fun ad n x hx i hi'=>by
  obtain ⟨b,off,e1,e2,e3,e4⟩:=hx i hi'
  exact ⟨b,off,e1,e2,e3,(hc _ _ e2 e3).trans e4⟩
 refine ⟨s _ _ _ h.sf,s _ _ _ h.dk,fun i hi'=>?_,fun i hi'=>?_,n _ _ _ h.ys,s _ _ _ h.bs,fun i hi'=>?_⟩
 ·obtain ⟨b,off,ah,ch,e1,e2,e3,e4,e5⟩:=h.hs i hi'
  exact ⟨b,off,ah,ch,e1,e2,e3,⟨(hc _ _ e2 e3).trans e4.c0,(hc _ _ e2 e3).trans e4.c1,(hc _ _ e2 e3).trans e4.c2,(hc _ _ e2 e3).trans e4.c3,(hc _ _ e2 e3).trans e4.c4,(hc _ _ e2 e3).trans e4.c5,(hc _ _ e2 e3).trans e4.c6,(hc _ _ e2 e3).trans e4.c7⟩,s _ _ _ e5⟩
 ·obtain ⟨b,off,e1,e2,e3,e4⟩:=h.ws i hi'
  exact ⟨b,off,e1,e2,e3,(hc _ _ e2 e3).trans e4⟩
 ·obtain ⟨b,off,ah,ch,e1,e2,e3,e4,e5⟩:=h.as_ i hi'
  exact ⟨b,off,ah,ch,e1,e2,e3,⟨(hc _ _ e2 e3).trans e4.c0,(hc _ _ e2 e3).trans e4.c1⟩,n _ _ _ e5⟩
def R7 (mk:(Nat→Value)→Array Value) (W:World) (v0 v2:Value) (F1 F3:Value→World→Prop) (F4:Value→Nat→Nat→World→Prop) (zs:Array Value) (Fin:Value→Value→World→Prop) (l:Array Bool) (a:Act) (X:World):Prop:=
 ∃ t:Nat→Value,a=⟨mk t,[]⟩∧l.size=7∧Below W.1.size W X ∧
  (l.getD 6 false=true→(∀ i,i<7→l.getD i false=true)∧Fin (t 4) (t 5) X) ∧
  (l.getD 6 false=false→(l.getD 0 false=true→t 0=v0)∧(l.getD 1 false=true→F1 (t 1) X)∧(l.getD 2 false=true→t 2=v2)∧(l.getD 3 false=true→F3 (t 3) X) ∧
   (l.getD 4 false=true→∃ lo hi,W.1.size≤lo∧F4 (t 4) lo hi X∧(l.getD 5 false=true→∃ b,t 5=.pointer (some ⟨b,0,none⟩)∧(b<lo∨hi≤b))) ∧
   (l.getD 5 false=true→∃ b,t 5=.pointer (some ⟨b,0,none⟩)∧W.1.size≤b∧Bx X b zs))
theorem region7 {P:Program} {id:Nat} {ops:Array Oper} {Q:Exit→Act→World→Prop} {a0:Act} {W:World} (hm:P.follows .mixedOrders=true)
  (mk:(Nat→Value)→Array Value) (v0 v2:Value) (F1 F3:Value→World→Prop) (F4:Value→Nat→Nat→World→Prop) (zs:Array Value) (T:TypeId) (Fin:Value→Value→World→Prop)
  (hn:ops.size=7) (hord:((List.range ops.size).all fun i=>match ops[i]? with|some o=>o.after.all (fun e=>decide (e.on<i))|none=>true)=true)
  (hd:∀ l i,i ∈ Region.ready .any ops l→(i=1→l.getD 0 false=true)∧(i=3→l.getD 2 false=true)∧(i=4→l.getD 1 false=true∧l.getD 3 false=true)∧(i=6→∀ j,j<6→l.getD j false=true))
  (st1:∀ v X Y,F1 v X→Below X.1.size X Y→F1 v Y) (st3:∀ v X Y,F3 v X→Below X.1.size X Y→F3 v Y) (st4:∀ v lo hi X Y,F4 v lo hi X→Below X.1.size X Y→F4 v lo hi Y) (hi4:∀ v lo hi X,F4 v lo hi X→hi≤X.1.size)
  (h0:a0=⟨mk (fun _=>undef),[]⟩)
  (s0:∀ t X K,Below W.1.size W X→K ⟨mk (updT t 0 v0),[]⟩ X→wpOp P ops Q 0 K ⟨mk t,[]⟩ X)
  (s1:∀ t X K,Below W.1.size W X→t 0=v0→(∀ v Y,F1 v Y→Below X.1.size X Y→K ⟨mk (updT t 1 v),[]⟩ Y)→wpOp P ops Q 1 K ⟨mk t,[]⟩ X)
  (s2:∀ t X K,Below W.1.size W X→K ⟨mk (updT t 2 v2),[]⟩ X→wpOp P ops Q 2 K ⟨mk t,[]⟩ X)
  (s3:∀ t X K,Below W.1.size W X→t 2=v2→(∀ v Y,F3 v Y→Below X.1.size X Y→K ⟨mk (updT t 3 v),[]⟩ Y)→wpOp P ops Q 3 K ⟨mk t,[]⟩ X)
  (s4:∀ t X K,Below W.1.size W X→F1 (t 1) X→F3 (t 3) X→(∀ v Y,F4 v X.1.size Y.1.size Y→Below X.1.size X Y→K ⟨mk (updT t 4 v),[]⟩ Y)→wpOp P ops Q 4 K ⟨mk t,[]⟩ X)
  (s5:∀ t X K,K ⟨mk (updT t 5 (.pointer (some ⟨X.1.size,0,none⟩))),[]⟩ (X.alloc (.cells zs T))→wpOp P ops Q 5 K ⟨mk t,[]⟩ X)
  (s6:∀ t X K b lo hi,Below W.1.size W X→t 5=.pointer (some ⟨b,0,none⟩)→W.1.size≤b→Bx X b zs→F4 (t 4) lo hi X→W.1.size≤lo→(b<lo∨hi≤b)→(∀ Y,Fin (t 4) (t 5) Y→Below W.1.size W Y→K ⟨mk t,[]⟩ Y)→wpOp P ops Q 6 K ⟨mk t,[]⟩ X)
  (hfin:∀ t X,Fin (t 4) (t 5) X→Below W.1.size W X→Q .normal ⟨mk t,[]⟩ X):(Code.region id ops true).wp P Q a0 W:=by
 refine Yz hm (R7 mk W v0 v2 F1 F3 F4 zs Fin) ?_ ?_ ?_ ?_
 ·refine ⟨fun _=>undef,h0,by simp [hn],(br _ _).drew,fun h=>?_,fun _=>⟨fun h=>?_,fun h=>?_,fun h=>?_,fun h=>?_,fun h=>?_,fun h=>?_⟩⟩<;>(rw [hn] at h;simp at h)
 ·rintro l a X ⟨t,_,hs,_⟩
  rw [hs,hn]
 ·rintro l a X ⟨t,rfl,hs,hb,h6,_⟩ hr
  have AL:=Y7 hord (by rw [hs,hn]) hr
  exact hfin t X (h6 (AL 6 (by omega))).2 hb
 ·rintro l a X i ⟨t,rfl,hs,hb,h6,hg⟩ hr
  obtain ⟨d1,d3,d4,d6⟩:=hd l i hr
  obtain ⟨hu,o,ho,_⟩:=mem_ready.1 hr
  have hi7:i<7:=by
   rcases Nat.lt_or_ge i 7 with h|h
   ·exact h
   ·rw [Array.getElem?_eq_none (by omega)] at ho
    cases ho
  have hui:l.getD i false=false:=by
   have:l.getD i true=false:=hu
   simpa [Array.getD,hs,hi7] using this
  have l6:l.getD 6 false=false:=by
   cases h:l.getD 6 false with
   | false=>rfl
   | true=>rw [(h6 h).1 i hi7] at hui;cases hui
  obtain ⟨g0,g1,g2,g3,g4,g5⟩:=hg l6
  have kp:∀ j,¬j=i→(l.setIfInBounds i true).getD j false=l.getD j false:=fun j hj=>by rw [Yl (by omega),if_neg hj]
  have ki:(l.setIfInBounds i true).getD i false=true:=by rw [Yl (by omega),if_pos rfl]
  have hs':(l.setIfInBounds i true).size=7:=by simp [hs]
  clear hr hu ho h6 hg
  rcases (show i=0∨i=1∨i=2∨i=3∨i=4∨i=5∨i=6 by omega) with rfl|rfl|rfl|rfl|rfl|rfl|rfl
  ·refine s0 t X _ hb ⟨updT t 0 v0,rfl,hs',hb,fun h=>?_,fun _=>⟨fun _=>rfl,fun h=>?_,fun h=>?_,fun h=>?_,fun h=>?_,fun h=>?_⟩⟩
   ·rw [kp 6 (by decide),l6] at h;cases h
   ·rw [kp 1 (by decide)] at h;exact g1 h
   ·rw [kp 2 (by decide)] at h;exact g2 h
   ·rw [kp 3 (by decide)] at h;exact g3 h
   ·rw [kp 4 (by decide)] at h;rw [kp 5 (by decide)];exact g4 h
   ·rw [kp 5 (by decide)] at h;exact g5 h
  ·refine s1 t X _ hb (g0 (d1 rfl)) (fun v Y hv hY=>⟨updT t 1 v,rfl,hs',hb.trans (hY.mono hb.size),fun h=>?_,fun _=>⟨fun h=>?_,fun _=>hv,fun h=>?_,fun h=>?_,fun h=>?_,fun h=>?_⟩⟩)
   ·rw [kp 6 (by decide),l6] at h;cases h
   ·rw [kp 0 (by decide)] at h;exact g0 h
   ·rw [kp 2 (by decide)] at h;exact g2 h
   ·rw [kp 3 (by decide)] at h;exact st3 _ _ _ (g3 h) hY
   ·rw [kp 4 (by decide)] at h;rw [kp 5 (by decide)]
    obtain ⟨lo,hi,e1,e2,e3⟩:=g4 h
    exact ⟨lo,hi,e1,st4 _ _ _ _ _ e2 hY,e3⟩
   ·rw [kp 5 (by decide)] at h
    obtain ⟨b,e1,e2,e3⟩:=g5 h
    exact ⟨b,e1,e2,e3.belowS hY⟩
  ·refine s2 t X _ hb ⟨updT t 2 v2,rfl,hs',hb,fun h=>?_,fun _=>⟨fun h=>?_,fun h=>?_,fun _=>rfl,fun h=>?_,fun h=>?_,fun h=>?_⟩⟩
   ·rw [kp 6 (by decide),l6] at h;cases h
   ·rw [kp 0 (by decide)] at h;exact g0 h
   ·rw [kp 1 (by decide)] at h;exact g1 h
   ·rw [kp 3 (by decide)] at h;exact g3 h
   ·rw [kp 4 (by decide)] at h;rw [kp 5 (by decide)];exact g4 h
   ·rw [kp 5 (by decide)] at h;exact g5 h
  ·refine s3 t X _ hb (g2 (d3 rfl)) (fun v Y hv hY=>⟨updT t 3 v,rfl,hs',hb.trans (hY.mono hb.size),fun h=>?_,fun _=>⟨fun h=>?_,fun h=>?_,fun h=>?_,fun _=>hv,fun h=>?_,fun h=>?_⟩⟩)
   ·rw [kp 6 (by decide),l6] at h;cases h
   ·rw [kp 0 (by decide)] at h;exact g0 h
   ·rw [kp 1 (by decide)] at h;exact st1 _ _ _ (g1 h) hY
   ·rw [kp 2 (by decide)] at h;exact g2 h
   ·rw [kp 4 (by decide)] at h;rw [kp 5 (by decide)]
    obtain ⟨lo,hi,e1,e2,e3⟩:=g4 h
    exact ⟨lo,hi,e1,st4 _ _ _ _ _ e2 hY,e3⟩
   ·rw [kp 5 (by decide)] at h
    obtain ⟨b,e1,e2,e3⟩:=g5 h
    exact ⟨b,e1,e2,e3.belowS hY⟩
  ·refine s4 t X _ hb (g1 (d4 rfl).1) (g3 (d4 rfl).2) (fun v Y hv hY=>⟨updT t 4 v,rfl,hs',hb.trans (hY.mono hb.size),fun h=>?_,fun _=>⟨fun h=>?_,fun h=>?_,fun h=>?_,fun h=>?_,fun _=>?_,fun h=>?_⟩⟩)
   ·rw [kp 6 (by decide),l6] at h;cases h
   ·rw [kp 0 (by decide)] at h;exact g0 h
   ·rw [kp 1 (by decide)] at h;exact st1 _ _ _ (g1 h) hY
   ·rw [kp 2 (by decide)] at h;exact g2 h
   ·rw [kp 3 (by decide)] at h;exact st3 _ _ _ (g3 h) hY
   ·refine ⟨X.1.size,Y.1.size,hb.size,hv,fun h=>?_⟩
    rw [kp 5 (by decide)] at h
    obtain ⟨b,e1,e2,e3⟩:=g5 h
    exact ⟨b,e1,Or.inl e3.lt⟩
   ·rw [kp 5 (by decide)] at h
    obtain ⟨b,e1,e2,e3⟩:=g5 h
    exact ⟨b,e1,e2,e3.belowS hY⟩
  ·have hY:=Zb X (.cells zs T)
   refine s5 t X _ ⟨updT t 5 _,rfl,hs',hb.alloc hb.size _,fun h=>?_,fun _=>⟨fun h=>?_,fun h=>?_,fun h=>?_,fun h=>?_,fun h=>?_,fun _=>?_⟩⟩
   ·rw [kp 6 (by decide),l6] at h;cases h
   ·rw [kp 0 (by decide)] at h;exact g0 h
   ·rw [kp 1 (by decide)] at h;exact st1 _ _ _ (g1 h) hY
   ·rw [kp 2 (by decide)] at h;exact g2 h
   ·rw [kp 3 (by decide)] at h;exact st3 _ _ _ (g3 h) hY
   ·rw [kp 4 (by decide)] at h
    obtain ⟨lo,hi,e1,e2,e3⟩:=g4 h
    exact ⟨lo,hi,e1,st4 _ _ _ _ _ e2 hY,fun _=>⟨X.1.size,rfl,Or.inr (hi4 _ _ _ _ e2)⟩⟩
   ·exact ⟨X.1.size,rfl,hb.size,bx_new (br _ _)⟩
  ·have a4:=d6 rfl 4 (by decide)
   have a5:=d6 rfl 5 (by decide)
   obtain ⟨lo,hi,e1,e2,e3⟩:=g4 a4
   obtain ⟨b,f1,f2⟩:=e3 a5
   obtain ⟨b',f3,f4,f5⟩:=g5 a5
   obtain rfl:b'=b:=by rw [f1] at f3;cases f3;rfl
   refine s6 t X _ b' lo hi hb f1 f4 f5 e2 e1 f2 (fun Y hY hbY=>⟨t,rfl,hs',hbY,fun _=>⟨fun j hj=>?_,hY⟩,fun h=>?_⟩)
   ·by_cases e:j=6
    ·subst e;exact ki
    ·rw [kp j e];exact d6 rfl j (by omega)
   ·rw [ki] at h;cases h
theorem SlsOwn.isIn0 {w:World} {lo:Nat} {ad:Option Addr} {n:Nat} {x:Nat→Sl} (h:SlsOwn w lo w.1.size ad n x):SlsIn w 0 w.1.size ad n x:=by
 obtain ⟨g,h1,h2,h3⟩:=h.at
 exact h1.isIn (fun _=>⟨zle _,h3⟩)
theorem apHh0 {P:Prop} (h:P:=by
  intro l i hr
  obtain ⟨_,o,ho,hdep⟩:=mem_ready.1 hr
  refine ⟨fun e=>?_,fun e=>?_,fun e=>?_,fun e=>?_⟩<;>subst e<;>simp only [List.getElem?_toArray,List.getElem?_cons_succ,List.getElem?_cons_zero,Option.some.injEq] at ho<;>subst ho
  ·exact hdep ⟨0,.data⟩ (by simp) rfl
  ·exact hdep ⟨2,.data⟩ (by simp) rfl
  ·exact ⟨hdep ⟨1,.data⟩ (by simp) rfl,hdep ⟨3,.data⟩ (by simp) rfl⟩
  ·intro j hj
   rcases (show j=0∨j=1∨j=2∨j=3∨j=4∨j=5 by omega) with rfl|rfl|rfl|rfl|rfl|rfl
   ·exact hdep ⟨0,.phase⟩ (by simp) rfl
   ·exact hdep ⟨1,.phase⟩ (by simp) rfl
   ·exact hdep ⟨2,.phase⟩ (by simp) rfl
   ·exact hdep ⟨3,.phase⟩ (by simp) rfl
   ·exact hdep ⟨4,.phase⟩ (by simp) rfl
   ·exact hdep ⟨5,.phase⟩ (by simp) rfl):P:=h
theorem apHh1 {P:Prop} (h:P:=by
  intro t X K b lo hi hb e5 hbl bx h4 hlo hor hK
  obtain ⟨A2,e4,i4,hi4⟩:=h4
  refine YQ rfl rfl 38 _ _ rfl b (rcC O A2).toList e5 e4 bx rfl Tryz.sz38 (by simp [Value.oneCell']) (fun V hv hf hs=>hK V ⟨A2,b,e4,e5,hbl,hv.lt,hv,?_⟩ ?_)
  ·refine ((i4.cells (fun q o h1 h2=>?_)).mono hlo (by omega))
   exact (FrP.of_fr (P:=fun q=>q=b) hf (fun k h1 h2=>by omega)).cell (p:=⟨q,o,none⟩) (show q<X.1.size by omega) (show ¬q=b by omega)
  ·exact hb.trans (hf.below (B:=W.1.size) hbl hb.size)):P:=h
theorem apHh3 {P:Prop} (h:P:=by
  intro t X K hb e0 hK
  refine Zi rfl rfl ?_
  have HK:=hid hK
  have hl:=hbx.lt
  clear hK
  go_simp
  go_at_call 8
  refine (K8 r A X 0 s0 (by have:=hb.size;omega) hm (hin.below hb (by omega))).mono ?_
  rintro e Y ⟨A',m1,m2,m3,m4,m5,m6,rfl,hn',ho',hbY⟩
  have h:=HK.out _ Y ⟨A',rfl,hn',ho'.isIn.mono (zle _) (lrf _)⟩ hbY
  simpa [updT,e0] using h):P:=h
theorem apHh4 {P:Prop} (h:P:=by
  intro t X K hb e2 hK
  refine Zi rfl rfl ?_
  have HK:=hid hK
  have hl:=hbx.lt
  clear hK
  go_simp
  go_at_call 18
  refine (JQ m ma mc X 0 s0 (by have:=hb.size;omega) (by omega) (him.below hb (by omega))).mono ?_
  rintro e Y ⟨g,rfl,ho,hbY⟩
  have h:=HK.out _ Y ⟨g,rfl,ho.isIn0⟩ hbY
  simpa [updT,e2] using h):P:=h
theorem apHh5 {P:Prop} (h:P:=by
  rintro v X Y ⟨g,rfl,h⟩ hb
  exact ⟨g,rfl,(h.below hb (lrf _)).mono (lrf _) hb.size⟩):P:=h
theorem apHh6 {P:Prop} (h:P:=by
  intro t X K hb hK
  exact YX rfl rfl 48 _ rfl (s0+1) rfl (msC m ma mc).toList _ (Holds.range (cs:=(msC m ma mc).toList) (hbm.below hb hbm.lt).cell) Tryz.underlying48 rfl Tryz.sz48 hK):P:=h
set_option maxRecDepth 100000 in
theorem tlReg8 (p0 p1 p4 p5 p7 p8 p9 p10 p11 p12 p13 p14 p15 p16 p17 p18 p19 p20 p21 p22 p23 p29 p30 p31 p32 p33 p34 p35 p36 p37 p38 p39 p40 p41 p42 p43 p44 p45 p46 p47 p48 p49 p50 p51 p52 p53 p54 p55 p56 p57 p58 p59 p60 p61 p62 p63 p64 p65 p66 p67 p68 p69 p70 p71 p72 p73 p74 p75 p76 p77 p78 p79 p80 p81 p82 p83 p84 p85 p86 p87 p88 p89 p90 p91:Value) (s0:Nat) (r:Rc) (A:RcA) (m:Ms) (ma:Option Addr) (mc:Nat) (O:Rc) (hm:ZW r) (hmn:(m.n:Int)≤1048576) (W:World) (hbx:Bx W s0 (rcC r A)) (hbm:Bx W (s0+1) (msC m ma mc)) (hin:RcIn W 0 s0 r A) (him:SlsIn W 0 s0 ma m.n m.s)
  (hQc:∀ X A1 g,ZX r A1→RcIn X 0 X.1.size r A1→SlsIn X 0 X.1.size (some ⟨g,0,none⟩) m.n m.s→Calls Tryz.prog 17 #[rcV r A1,msV m (some ⟨g,0,none⟩) m.n] X fun e w'=>∃ A2,e=.returned (rcV O A2)∧RcIn w' X.1.size w'.1.size O A2∧Below X.1.size X w') (Q:Exit→Act→World→Prop)
  (hQ:∀ u0 u1 u2 u3 A2 b6 X,RcIn X W.1.size X.1.size O A2→Bx X b6 (rcC O A2)→W.1.size≤b6→Below W.1.size W X→Q .normal ⟨#[p0,p1,.pointer (some ⟨s0,0,none⟩),.pointer (some ⟨s0+1,0,none⟩),p4,p5,.pointer (some ⟨b6,0,none⟩),p7,p8,p9,p10,p11,p12,p13,p14,p15,p16,p17,p18,p19,p20,p21,p22,p23,u0,u1,u2,u3,rcV O A2,p29,p30,p31,p32,p33,p34,p35,p36,p37,p38,p39,p40,p41,p42,p43,p44,p45,p46,p47,p48,p49,p50,p51,p52,p53,p54,p55,p56,p57,p58,p59,p60,p61,p62,p63,p64,p65,p66,p67,p68,p69,p70,p71,p72,p73,p74,p75,p76,p77,p78,p79,p80,p81,p82,p83,p84,p85,p86,p87,p88,p89,p90,p91],[]⟩ X) :
  Code.wp Tryz.prog (Code.region 8 #[⟨some 24,.load 30 (.tmp 2),30, "exact.go:2796",#[],none⟩,⟨some 25,.call ⟨.value (.func 8),#[.tmp 24],#[30]⟩,38, "exact.go:2796",#[⟨0,.data⟩],none⟩,⟨some 26,.load 48 (.tmp 3),48, "exact.go:2796",#[],none⟩,⟨some 27,.call ⟨.value (.func 18),#[.tmp 26],#[48]⟩,52, "exact.go:2796",#[⟨2,.data⟩,⟨1,.chain⟩],none⟩,⟨some 28,.call ⟨.value (.func 17),#[.tmp 25,.tmp 27],#[38,52]⟩,38, "exact.go:2796",#[⟨1,.data⟩,⟨3,.data⟩,⟨3,.chain⟩],none⟩,⟨some 6,.alloc 38,0, "exact.go:2796",#[],none⟩,⟨none,.store 38 (.tmp 6) (.tmp 28),0, "exact.go:2796",#[⟨5,.data⟩,⟨4,.data⟩,⟨4,.chain⟩,⟨0,.phase⟩,⟨1,.phase⟩,⟨2,.phase⟩,⟨3,.phase⟩,⟨4,.phase⟩,⟨5,.phase⟩],none⟩] true) Q ⟨#[p0,p1,.pointer (some ⟨s0,0,none⟩),.pointer (some ⟨s0+1,0,none⟩),p4,p5,undef,p7,p8,p9,p10,p11,p12,p13,p14,p15,p16,p17,p18,p19,p20,p21,p22,p23,undef,undef,undef,undef,undef,p29,p30,p31,p32,p33,p34,p35,p36,p37,p38,p39,p40,p41,p42,p43,p44,p45,p46,p47,p48,p49,p50,p51,p52,p53,p54,p55,p56,p57,p58,p59,p60,p61,p62,p63,p64,p65,p66,p67,p68,p69,p70,p71,p72,p73,p74,p75,p76,p77,p78,p79,p80,p81,p82,p83,p84,p85,p86,p87,p88,p89,p90,p91],[]⟩ W:=by
 refine region7 (by kernel_rfl) (fun t:Nat→Value=>#[p0,p1,.pointer (some ⟨s0,0,none⟩),.pointer (some ⟨s0+1,0,none⟩),p4,p5,t 5,p7,p8,p9,p10,p11,p12,p13,p14,p15,p16,p17,p18,p19,p20,p21,p22,p23,t 0,t 1,t 2,t 3,t 4,p29,p30,p31,p32,p33,p34,p35,p36,p37,p38,p39,p40,p41,p42,p43,p44,p45,p46,p47,p48,p49,p50,p51,p52,p53,p54,p55,p56,p57,p58,p59,p60,p61,p62,p63,p64,p65,p66,p67,p68,p69,p70,p71,p72,p73,p74,p75,p76,p77,p78,p79,p80,p81,p82,p83,p84,p85,p86,p87,p88,p89,p90,p91]) (.agg (rcC r A)) (.agg (msC m ma mc)) (fun v X=>∃ A1,v=rcV r A1∧ZX r A1∧RcIn X 0 X.1.size r A1) (fun v X=>∃ g,v=msV m (some ⟨g,0,none⟩) m.n∧SlsIn X 0 X.1.size (some ⟨g,0,none⟩) m.n m.s) (fun v lo hi X=>∃ A2,v=rcV O A2∧RcIn X lo hi O A2∧hi≤X.1.size) (rcL 0 0 false).toArray 38 (fun v4 v5 Y=>∃ A2 b,v4=rcV O A2∧v5=.pointer (some ⟨b,0,none⟩)∧W.1.size≤b∧b<Y.1.size∧Bx Y b (rcC O A2)∧RcIn Y W.1.size Y.1.size O A2) (by kernel_rfl) (by kernel_rfl) ?hd ?st1 ?st3 ?st4 ?hi4 rfl ?s0 ?s1 ?s2 ?s3 ?s4 ?s5 ?s6 ?hfin
 case hd=>
  exact apHh0
 case st1=>
  rintro v X Y ⟨A1,rfl,hn,h⟩ hb
  exact ⟨A1,rfl,hn,(h.below hb (lrf _)).mono (lrf _) hb.size⟩
 case st3=>
  exact apHh5
 case st4=>
  rintro v lo hi X Y ⟨A2,rfl,h1,h2⟩ hb
  exact ⟨A2,rfl,h1.below hb h2,ltr h2 hb.size⟩
 case hi4=>
  rintro v lo hi X ⟨A2,rfl,h1,h2⟩
  exact h2
 case s0=>
  intro t X K hb hK
  exact YX rfl rfl 30 _ rfl s0 rfl (rcC r A).toList _ (Holds.range (cs:=(rcC r A).toList) (hbx.below hb hbx.lt).cell) Tryz.underlying30 rfl Tryz.sz30 hK
 case s1=>
  exact apHh3
 case s2=>
  exact apHh6
 case s3=>
  exact apHh4
 case s4=>
  intro t X K hb h1 h3 hK
  obtain ⟨A1,e1,hn1,i1⟩:=h1
  obtain ⟨g,e3,i3⟩:=h3
  refine Zi rfl rfl ?_
  have HK:=hid hK
  have HC:=hid (hQc X A1 g hn1 i1 i3)
  clear hK hQc hQ i1 i3
  go_simp
  go_at_call 17
  refine HC.out.mono ?_
  rintro e Y ⟨A2,rfl,h1,h2⟩
  have h:=HK.out _ Y ⟨A2,rfl,h1,lrf _⟩ h2
  simpa [updT,e1,e3] using h
 case s5=>
  intro t X K hK
  refine Zi rfl rfl ?_
  go_simp
  exact hK
 case s6=>
  exact apHh1
 case hfin=>
  rintro t X ⟨A2,b,e4,e5,h1,h2,h3,h4⟩ hb
  have h:=hQ (t 0) (t 1) (t 2) (t 3) A2 b X h4 h3 h1 hb
  rw [←e4,←e5] at h
  exact h
set_option maxRecDepth 100000 in
theorem tlReg31 (p0 p1 p4 p5 p6 p7 p8 p9 p10 p11 p12 p14 p15 p16 p17 p18 p19 p20 p21 p22 p23 p24 p25 p26 p27 p28 p29 p30 p31 p32 p33 p34 p35 p36 p37 p38 p39 p40 p41 p42 p43 p44 p45 p46 p47 p48 p49 p50 p51 p52 p53 p54 p55 p56 p57 p58 p59 p60 p61 p62 p63 p64 p65 p66 p67 p68 p69 p70 p71 p72 p73 p74 p80 p81 p82 p83 p84 p85 p86 p87 p88 p89 p90 p91:Value) (s0:Nat) (r:Rc) (A:RcA) (m:Ms) (ma:Option Addr) (mc:Nat) (O:Rc) (hm:ZW r) (hmn:(m.n:Int)≤1048576) (W:World) (hbx:Bx W s0 (rcC r A)) (hbm:Bx W (s0+1) (msC m ma mc)) (hin:RcIn W 0 s0 r A) (him:SlsIn W 0 s0 ma m.n m.s)
  (hQc:∀ X A1 g,ZX r A1→RcIn X 0 X.1.size r A1→SlsIn X 0 X.1.size (some ⟨g,0,none⟩) m.n m.s→Calls Tryz.prog 19 #[rcV r A1,msV m (some ⟨g,0,none⟩) m.n] X fun e w'=>∃ A2,e=.returned (rcV O A2)∧RcIn w' X.1.size w'.1.size O A2∧Below X.1.size X w') (Q:Exit→Act→World→Prop)
  (hQ:∀ u0 u1 u2 u3 A2 b6 X,RcIn X W.1.size X.1.size O A2→Bx X b6 (rcC O A2)→W.1.size≤b6→Below W.1.size W X→Q .normal ⟨#[p0,p1,.pointer (some ⟨s0,0,none⟩),.pointer (some ⟨s0+1,0,none⟩),p4,p5,p6,p7,p8,p9,p10,p11,p12,.pointer (some ⟨b6,0,none⟩),p14,p15,p16,p17,p18,p19,p20,p21,p22,p23,p24,p25,p26,p27,p28,p29,p30,p31,p32,p33,p34,p35,p36,p37,p38,p39,p40,p41,p42,p43,p44,p45,p46,p47,p48,p49,p50,p51,p52,p53,p54,p55,p56,p57,p58,p59,p60,p61,p62,p63,p64,p65,p66,p67,p68,p69,p70,p71,p72,p73,p74,u0,u1,u2,u3,rcV O A2,p80,p81,p82,p83,p84,p85,p86,p87,p88,p89,p90,p91],[]⟩ X) :
  Code.wp Tryz.prog (Code.region 31 #[⟨some 75,.load 30 (.tmp 2),30, "exact.go:2825",#[],none⟩,⟨some 76,.call ⟨.value (.func 8),#[.tmp 75],#[30]⟩,38, "exact.go:2825",#[⟨0,.data⟩],none⟩,⟨some 77,.load 48 (.tmp 3),48, "exact.go:2825",#[],none⟩,⟨some 78,.call ⟨.value (.func 18),#[.tmp 77],#[48]⟩,52, "exact.go:2825",#[⟨2,.data⟩,⟨1,.chain⟩],none⟩,⟨some 79,.call ⟨.value (.func 19),#[.tmp 76,.tmp 78],#[38,52]⟩,38, "exact.go:2825",#[⟨1,.data⟩,⟨3,.data⟩,⟨3,.chain⟩],none⟩,⟨some 13,.alloc 38,0, "exact.go:2825",#[],none⟩,⟨none,.store 38 (.tmp 13) (.tmp 79),0, "exact.go:2825",#[⟨5,.data⟩,⟨4,.data⟩,⟨4,.chain⟩,⟨0,.phase⟩,⟨1,.phase⟩,⟨2,.phase⟩,⟨3,.phase⟩,⟨4,.phase⟩,⟨5,.phase⟩],none⟩] true) Q ⟨#[p0,p1,.pointer (some ⟨s0,0,none⟩),.pointer (some ⟨s0+1,0,none⟩),p4,p5,p6,p7,p8,p9,p10,p11,p12,undef,p14,p15,p16,p17,p18,p19,p20,p21,p22,p23,p24,p25,p26,p27,p28,p29,p30,p31,p32,p33,p34,p35,p36,p37,p38,p39,p40,p41,p42,p43,p44,p45,p46,p47,p48,p49,p50,p51,p52,p53,p54,p55,p56,p57,p58,p59,p60,p61,p62,p63,p64,p65,p66,p67,p68,p69,p70,p71,p72,p73,p74,undef,undef,undef,undef,undef,p80,p81,p82,p83,p84,p85,p86,p87,p88,p89,p90,p91],[]⟩ W:=by
 refine region7 (by kernel_rfl) (fun t:Nat→Value=>#[p0,p1,.pointer (some ⟨s0,0,none⟩),.pointer (some ⟨s0+1,0,none⟩),p4,p5,p6,p7,p8,p9,p10,p11,p12,t 5,p14,p15,p16,p17,p18,p19,p20,p21,p22,p23,p24,p25,p26,p27,p28,p29,p30,p31,p32,p33,p34,p35,p36,p37,p38,p39,p40,p41,p42,p43,p44,p45,p46,p47,p48,p49,p50,p51,p52,p53,p54,p55,p56,p57,p58,p59,p60,p61,p62,p63,p64,p65,p66,p67,p68,p69,p70,p71,p72,p73,p74,t 0,t 1,t 2,t 3,t 4,p80,p81,p82,p83,p84,p85,p86,p87,p88,p89,p90,p91]) (.agg (rcC r A)) (.agg (msC m ma mc)) (fun v X=>∃ A1,v=rcV r A1∧ZX r A1∧RcIn X 0 X.1.size r A1) (fun v X=>∃ g,v=msV m (some ⟨g,0,none⟩) m.n∧SlsIn X 0 X.1.size (some ⟨g,0,none⟩) m.n m.s) (fun v lo hi X=>∃ A2,v=rcV O A2∧RcIn X lo hi O A2∧hi≤X.1.size) (rcL 0 0 false).toArray 38 (fun v4 v5 Y=>∃ A2 b,v4=rcV O A2∧v5=.pointer (some ⟨b,0,none⟩)∧W.1.size≤b∧b<Y.1.size∧Bx Y b (rcC O A2)∧RcIn Y W.1.size Y.1.size O A2) (by kernel_rfl) (by kernel_rfl) ?hd ?st1 ?st3 ?st4 ?hi4 rfl ?s0 ?s1 ?s2 ?s3 ?s4 ?s5 ?s6 ?hfin
 case hd=>
  exact apHh0
 case st1=>
  rintro v X Y ⟨A1,rfl,hn,h⟩ hb
  exact ⟨A1,rfl,hn,(h.below hb (lrf _)).mono (lrf _) hb.size⟩
 case st3=>
  exact apHh5
 case st4=>
  rintro v lo hi X Y ⟨A2,rfl,h1,h2⟩ hb
  exact ⟨A2,rfl,h1.below hb h2,ltr h2 hb.size⟩
 case hi4=>
  rintro v lo hi X ⟨A2,rfl,h1,h2⟩
  exact h2
 case s0=>
  intro t X K hb hK
  exact YX rfl rfl 30 _ rfl s0 rfl (rcC r A).toList _ (Holds.range (cs:=(rcC r A).toList) (hbx.below hb hbx.lt).cell) Tryz.underlying30 rfl Tryz.sz30 hK
 case s1=>
  exact apHh3
 case s2=>
  exact apHh6
 case s3=>
  exact apHh4
 case s4=>
  intro t X K hb h1 h3 hK
  obtain ⟨A1,e1,hn1,i1⟩:=h1
  obtain ⟨g,e3,i3⟩:=h3
  refine Zi rfl rfl ?_
  have HK:=hid hK
  have HC:=hid (hQc X A1 g hn1 i1 i3)
  clear hK hQc hQ i1 i3
  go_simp
  go_at_call 19
  refine HC.out.mono ?_
  rintro e Y ⟨A2,rfl,h1,h2⟩
  have h:=HK.out _ Y ⟨A2,rfl,h1,lrf _⟩ h2
  simpa [updT,e1,e3] using h
 case s5=>
  intro t X K hK
  refine Zi rfl rfl ?_
  go_simp
  exact hK
 case s6=>
  exact apHh1
 case hfin=>
  rintro t X ⟨A2,b,e4,e5,h1,h2,h3,h4⟩ hb
  have h:=hQ (t 0) (t 1) (t 2) (t 3) A2 b X h4 h3 h1 hb
  rw [←e4,←e5] at h
  exact h
theorem apHh2 {P:Prop} (h:P:=by
  intro l i hr
  obtain ⟨_,o,ho,hdep⟩:=mem_ready.1 hr
  refine ⟨fun e=>?_,fun e=>?_,fun e=>?_⟩<;>subst e<;>simp only [List.getElem?_toArray,List.getElem?_cons_succ,List.getElem?_cons_zero,Option.some.injEq] at ho<;>subst ho
  ·exact hdep ⟨1,.data⟩ (by simp) rfl
  ·exact ⟨hdep ⟨0,.data⟩ (by simp) rfl,hdep ⟨2,.data⟩ (by simp) rfl⟩
  ·exact hdep ⟨3,.data⟩ (by simp) rfl):P:=h
set_option maxRecDepth 100000 in
theorem tlReg14 (p0 p1 p3 p4 p5 p6 p8 p9 p10 p11 p12 p13 p14 p15 p16 p17 p18 p19 p20 p21 p22 p23 p24 p25 p26 p27 p28 p29 p30 p31 p32 p33 p34 p35 p36 p37 p38 p39 p45 p46 p47 p48 p49 p50 p51 p52 p53 p54 p55 p56 p57 p58 p59 p60 p61 p62 p63 p64 p65 p66 p67 p68 p69 p70 p71 p72 p73 p74 p75 p76 p77 p78 p79 p80 p81 p82 p83 p84 p85 p86 p87 p88 p89 p90 p91:Value) (s0 b5:Nat) (r:Rc) (A A5:RcA) (hf:ZR r) (hm:ZW r) (W:World) (hv:W.rangeAt b5 0 (rcC r A5).toList) (hbx:W.rangeAt s0 0 (rcC r A).toList) (hat:RcIn W 0 W.1.size r A5) (hin:RcIn W 0 s0 r A) (hs:s0<W.1.size) (zb:b5<W.1.size) (Q:Exit→Act→World→Prop)
  (hQ:∀ u0 u1 u2 u3 X,Below W.1.size W X→Q .normal ⟨#[p0,p1,.pointer (some ⟨s0,0,none⟩),p3,p4,p5,p6,.pointer (some ⟨b5,0,none⟩),p8,p9,p10,p11,p12,p13,p14,p15,p16,p17,p18,p19,p20,p21,p22,p23,p24,p25,p26,p27,p28,p29,p30,p31,p32,p33,p34,p35,p36,p37,p38,p39,u0,u1,u2,u3,.bool false,p45,p46,p47,p48,p49,p50,p51,p52,p53,p54,p55,p56,p57,p58,p59,p60,p61,p62,p63,p64,p65,p66,p67,p68,p69,p70,p71,p72,p73,p74,p75,p76,p77,p78,p79,p80,p81,p82,p83,p84,p85,p86,p87,p88,p89,p90,p91],[]⟩ X) :
  Code.wp Tryz.prog (Code.region 14 #[⟨some 40,.load 38 (.tmp 7),38, "exact.go:2803",#[],none⟩,⟨some 41,.load 30 (.tmp 2),30, "exact.go:2803",#[],none⟩,⟨some 42,.call ⟨.value (.func 8),#[.tmp 41],#[30]⟩,38, "exact.go:2803",#[⟨1,.data⟩],none⟩,⟨some 43,.call ⟨.value (.func 10),#[.tmp 40,.tmp 42],#[38,38]⟩,4, "exact.go:2803",#[⟨0,.data⟩,⟨2,.data⟩,⟨2,.chain⟩],none⟩,⟨some 44,.unOp .not 4 (.tmp 43),4, "exact.go:2803",#[⟨3,.data⟩],none⟩] true) Q ⟨#[p0,p1,.pointer (some ⟨s0,0,none⟩),p3,p4,p5,p6,.pointer (some ⟨b5,0,none⟩),p8,p9,p10,p11,p12,p13,p14,p15,p16,p17,p18,p19,p20,p21,p22,p23,p24,p25,p26,p27,p28,p29,p30,p31,p32,p33,p34,p35,p36,p37,p38,p39,undef,undef,undef,undef,undef,p45,p46,p47,p48,p49,p50,p51,p52,p53,p54,p55,p56,p57,p58,p59,p60,p61,p62,p63,p64,p65,p66,p67,p68,p69,p70,p71,p72,p73,p74,p75,p76,p77,p78,p79,p80,p81,p82,p83,p84,p85,p86,p87,p88,p89,p90,p91],[]⟩ W:=by
 refine region5 (by kernel_rfl) (fun t:Nat→Value=>#[p0,p1,.pointer (some ⟨s0,0,none⟩),p3,p4,p5,p6,.pointer (some ⟨b5,0,none⟩),p8,p9,p10,p11,p12,p13,p14,p15,p16,p17,p18,p19,p20,p21,p22,p23,p24,p25,p26,p27,p28,p29,p30,p31,p32,p33,p34,p35,p36,p37,p38,p39,t 0,t 1,t 2,t 3,t 4,p45,p46,p47,p48,p49,p50,p51,p52,p53,p54,p55,p56,p57,p58,p59,p60,p61,p62,p63,p64,p65,p66,p67,p68,p69,p70,p71,p72,p73,p74,p75,p76,p77,p78,p79,p80,p81,p82,p83,p84,p85,p86,p87,p88,p89,p90,p91]) (rcV r A5) (rcV r A) (fun v X=>∃ A',v=rcV r A'∧RcIn X 0 X.1.size r A') rfl (by kernel_rfl) ?hd ?st2 rfl ?s0 ?s1 ?s2 ?s3 ?s4 ?hfin
 case hd=>
  exact apHh2
 case st2=>
  rintro v X Y ⟨A',rfl,h⟩ hb
  exact ⟨A',rfl,(h.below hb (lrf _)).mono (lrf _) hb.size⟩
 case s0=>
  intro t X K hb hK
  exact YX rfl rfl 38 _ rfl b5 rfl (rcC r A5).toList _ (World.rangeAt_below hv hb zb) Tryz.underlying38 rfl Tryz.sz38 hK
 case s1=>
  intro t X K hb hK
  exact YX rfl rfl 30 _ rfl s0 rfl (rcC r A).toList _ (World.rangeAt_below hbx hb hs) Tryz.underlying30 rfl Tryz.sz30 hK
 case s2=>
  intro t X K hb e1 hK
  refine Zi rfl rfl ?_
  have HK:=hid hK
  clear hK
  go_simp
  go_at_call 8
  refine (K8 r A X 0 s0 (by have:=hb.size;omega) hm (hin.below hb (by omega))).mono ?_
  rintro e Y ⟨A',m1,m2,m3,m4,m5,m6,rfl,hn',ho',hbY⟩
  have h:=HK.out _ Y ⟨A',rfl,ho'.isIn.mono (zle _) (lrf _)⟩ hbY
  simpa [updT,e1] using h
 case s3=>
  intro t X K hb e0 h2 hK
  obtain ⟨A',e2,i2⟩:=h2
  refine Zi rfl rfl ?_
  have HK:=hid hK
  have HI2:=hid i2
  clear hK i2
  go_simp
  go_at_call 10
  refine (Kg r A5 A' X 0 X.1.size 0 X.1.size (lrf _) (lrf _) hf ((hat.below hb (lrf _)).mono (lrf _) hb.size) HI2.out).mono ?_
  rintro e Y ⟨rfl,hbY⟩
  have h:=HK.out Y hbY
  simpa [updT,e0,e2] using h
 case s4=>
  intro t X K e3 hK
  refine Zi rfl rfl ?_
  go_simp
  simpa [updT,e3] using hK
 case hfin=>
  intro t X e4 hb
  have h:=hQ (t 0) (t 1) (t 2) (t 3) X hb
  rw [←e4] at h
  exact h
set_option maxRecDepth 100000 in
theorem tlReg16 (p0 p1 p2 p4 p5 p6 p7 p9 p10 p11 p12 p13 p14 p15 p16 p17 p18 p19 p20 p21 p22 p23 p24 p25 p26 p27 p28 p29 p30 p31 p32 p33 p34 p35 p36 p37 p38 p39 p40 p41 p42 p43 p44 p50 p51 p52 p53 p54 p55 p56 p57 p58 p59 p60 p61 p62 p63 p64 p65 p66 p67 p68 p69 p70 p71 p72 p73 p74 p75 p76 p77 p78 p79 p80 p81 p82 p83 p84 p85 p86 p87 p88 p89 p90 p91:Value) (s0 b9 gx:Nat) (m:Ms) (ma:Option Addr) (mc:Nat) (hmn:(m.n:Int)≤1048576) (W:World) (hv:W.rangeAt b9 0 (msC m (some ⟨gx,0,none⟩) m.n).toList) (hbx:W.rangeAt (s0+1) 0 (msC m ma mc).toList) (hat:SlsIn W 0 W.1.size (some ⟨gx,0,none⟩) m.n m.s) (hin:SlsIn W 0 s0 ma m.n m.s) (hs:s0+1<W.1.size) (zb:b9<W.1.size) (Q:Exit→Act→World→Prop)
  (hQ:∀ u0 u1 u2 u3 X,Below W.1.size W X→Q .normal ⟨#[p0,p1,p2,.pointer (some ⟨s0+1,0,none⟩),p4,p5,p6,p7,.pointer (some ⟨b9,0,none⟩),p9,p10,p11,p12,p13,p14,p15,p16,p17,p18,p19,p20,p21,p22,p23,p24,p25,p26,p27,p28,p29,p30,p31,p32,p33,p34,p35,p36,p37,p38,p39,p40,p41,p42,p43,p44,u0,u1,u2,u3,.bool false,p50,p51,p52,p53,p54,p55,p56,p57,p58,p59,p60,p61,p62,p63,p64,p65,p66,p67,p68,p69,p70,p71,p72,p73,p74,p75,p76,p77,p78,p79,p80,p81,p82,p83,p84,p85,p86,p87,p88,p89,p90,p91],[]⟩ X) :
  Code.wp Tryz.prog (Code.region 16 #[⟨some 45,.load 52 (.tmp 8),52, "exact.go:2806",#[],none⟩,⟨some 46,.load 48 (.tmp 3),48, "exact.go:2806",#[],none⟩,⟨some 47,.call ⟨.value (.func 18),#[.tmp 46],#[48]⟩,52, "exact.go:2806",#[⟨1,.data⟩],none⟩,⟨some 48,.call ⟨.value (.func 20),#[.tmp 45,.tmp 47],#[52,52]⟩,4, "exact.go:2806",#[⟨0,.data⟩,⟨2,.data⟩,⟨2,.chain⟩],none⟩,⟨some 49,.unOp .not 4 (.tmp 48),4, "exact.go:2806",#[⟨3,.data⟩],none⟩] true) Q ⟨#[p0,p1,p2,.pointer (some ⟨s0+1,0,none⟩),p4,p5,p6,p7,.pointer (some ⟨b9,0,none⟩),p9,p10,p11,p12,p13,p14,p15,p16,p17,p18,p19,p20,p21,p22,p23,p24,p25,p26,p27,p28,p29,p30,p31,p32,p33,p34,p35,p36,p37,p38,p39,p40,p41,p42,p43,p44,undef,undef,undef,undef,undef,p50,p51,p52,p53,p54,p55,p56,p57,p58,p59,p60,p61,p62,p63,p64,p65,p66,p67,p68,p69,p70,p71,p72,p73,p74,p75,p76,p77,p78,p79,p80,p81,p82,p83,p84,p85,p86,p87,p88,p89,p90,p91],[]⟩ W:=by
 refine region5 (by kernel_rfl) (fun t:Nat→Value=>#[p0,p1,p2,.pointer (some ⟨s0+1,0,none⟩),p4,p5,p6,p7,.pointer (some ⟨b9,0,none⟩),p9,p10,p11,p12,p13,p14,p15,p16,p17,p18,p19,p20,p21,p22,p23,p24,p25,p26,p27,p28,p29,p30,p31,p32,p33,p34,p35,p36,p37,p38,p39,p40,p41,p42,p43,p44,t 0,t 1,t 2,t 3,t 4,p50,p51,p52,p53,p54,p55,p56,p57,p58,p59,p60,p61,p62,p63,p64,p65,p66,p67,p68,p69,p70,p71,p72,p73,p74,p75,p76,p77,p78,p79,p80,p81,p82,p83,p84,p85,p86,p87,p88,p89,p90,p91]) (.agg (msC m (some ⟨gx,0,none⟩) m.n)) (.agg (msC m ma mc)) (fun v X=>∃ g,v=msV m (some ⟨g,0,none⟩) m.n∧SlsIn X 0 X.1.size (some ⟨g,0,none⟩) m.n m.s) rfl (by kernel_rfl) ?hd ?st2 rfl ?s0 ?s1 ?s2 ?s3 ?s4 ?hfin
 case hd=>
  exact apHh2
 case st2=>
  exact apHh5
 case s0=>
  intro t X K hb hK
  exact YX rfl rfl 52 _ rfl b9 rfl (msC m (some ⟨gx,0,none⟩) m.n).toList _ (World.rangeAt_below hv hb zb) Tryz.underlying52 rfl Tryz.sz52 hK
 case s1=>
  intro t X K hb hK
  exact YX rfl rfl 48 _ rfl (s0+1) rfl (msC m ma mc).toList _ (World.rangeAt_below hbx hb hs) Tryz.underlying48 rfl Tryz.sz48 hK
 case s2=>
  intro t X K hb e1 hK
  refine Zi rfl rfl ?_
  have HK:=hid hK
  clear hK
  go_simp
  go_at_call 18
  refine (JQ m ma mc X 0 s0 (by have:=hb.size;omega) (by omega) (hin.below hb (by omega))).mono ?_
  rintro e Y ⟨g,rfl,ho',hbY⟩
  have h:=HK.out _ Y ⟨g,rfl,ho'.isIn0⟩ hbY
  simpa [updT,e1] using h
 case s3=>
  intro t X K hb e0 h2 hK
  obtain ⟨g,e2,i2⟩:=h2
  refine Zi rfl rfl ?_
  have HK:=hid hK
  have HI2:=hid i2
  clear hK i2
  go_simp
  go_at_call 20
  refine (eqMs_any m (some ⟨gx,0,none⟩) (some ⟨g,0,none⟩) m.n m.n X 0 X.1.size 0 X.1.size (lrf _) (lrf _) (by omega) ((hat.below hb (lrf _)).mono (lrf _) hb.size) HI2.out).mono ?_
  rintro e Y ⟨rfl,hbY⟩
  have h:=HK.out Y hbY
  simpa [updT,e0,e2] using h
 case s4=>
  intro t X K e3 hK
  refine Zi rfl rfl ?_
  go_simp
  simpa [updT,e3] using hK
 case hfin=>
  intro t X e4 hb
  have h:=hQ (t 0) (t 1) (t 2) (t 3) X hb
  rw [←e4] at h
  exact h
set_option maxRecDepth 100000 in
theorem markMs_any (m:Ms) (s:Nat→Sl) (ad:Option Addr) (cap b k0:Nat) (w:World) (hb:m.n≠0→b<w.1.size) (hl:(m.n:Int)≤1048576) (hk1:1≤k0) (hk2:k0≤100000000) (hc:SlsAt w ad b m.n s) :
  Calls Tryz.prog 21 #[msV m ad cap,.int .i64 (k0:Int)] w fun e w'=>e=.returned (.int .i64 ((k0+2*m.n:Nat):Int))∧SlsAt w' ad b m.n (fun i=>slM (k0+2*i))∧FrP (fun q=>m.n≠0∧q=b) w w':=by
 have HM:=hid (XY m.n s ad cap (k0:Int) k0 rfl (w.alloc (.cells #[.int .i64 m.kind,.int .i64 m.from_,.int .i64 m.to,.int .i64 m.bal,.int .i64 m.ix,.int .i64 m.kn,.string m.text,.slice ad m.n cap] 52)) b (fun h0=>by have:=hb h0;simp;omega) (by omega) (by omega) (by omega) (hc.grow (Zb _ _)))
 clear hc
 go_enter Tryz.func21,Tryz.ntmps21
 go_wp2_with (go_at_call 58;go_must (refine HM.out.mono ?_;rintro e w1 ⟨rfl,h1,h2⟩;have H1:=hid h1;have H2:=hid h2;clear h1 h2 HM))
 go_ret
 exact ⟨by push_cast;rfl,H1.out,(FrP.of_below (Zb _ _)).trans2 H2.out (fun q _ h=>h)⟩
structure TS (W:World) (S b6 z6 b7 b9 b8 gx:Nat) (r:Rc) (A:RcA) (m:Ms) (ma:Option Addr) (mc:Nat) (O:Rc) (A2:RcA) (rx:Rc) (p3:RcP) (sx:Nat→Sl) (Ox:Rc) (p5:RcP):Prop where
 bx:Bx W S (rcC r A)
 mx:Bx W (S+1) (msC m ma mc)
 arg:RcIn W 0 S r A
 mar:SlsIn W 0 S ma m.n m.s
 v6:Bx W b6 (rcC O A2)
 i6:RcIn W (S+2) z6 O A2
 v7:Bx W b7 (rcC r p3.A)
 a7:RcAt W rx p3
 k7:∀ k,rbs p3 rx k→z6≤k∧k<b7
 v9:Bx W b9 (msC m (some ⟨gx,0,none⟩) m.n)
 a9:SlsAt W (some ⟨gx,0,none⟩) gx m.n sx
 k9:m.n≠0→b7<gx∧gx<b9
 v8:Bx W b8 (rcC O p5.A)
 a8:RcAt W Ox p5
 k8:∀ k,rbs p5 Ox k→b9<k∧k<b8
 o:S+1<b6∧b6<z6∧z6≤b7∧b7<b9∧b9<b8∧b8<W.1.size
section
variable {W W':World} {S b6 z6 b7 b9 b8 gx:Nat} {r:Rc} {A:RcA} {m:Ms} {ma:Option Addr} {mc:Nat} {O:Rc} {A2:RcA} {rx:Rc} {p3:RcP} {sx:Nat→Sl} {Ox:Rc} {p5:RcP}
theorem TS.below (h:TS W S b6 z6 b7 b9 b8 gx r A m ma mc O A2 rx p3 sx Ox p5) (hb:Below W.1.size W W'):TS W' S b6 z6 b7 b9 b8 gx r A m ma mc O A2 rx p3 sx Ox p5:=by
 obtain ⟨o1,o2,o3,o4,o5,o6⟩:=h.o
 exact ⟨h.bx.below hb (by omega),h.mx.below hb (by omega),h.arg.below hb (by omega),h.mar.below hb (by omega),h.v6.below hb (by omega),h.i6.below hb (by omega),h.v7.below hb (by omega),h.a7.grow hb,h.k7,h.v9.below hb (by omega),h.a9.grow hb,h.k9,h.v8.below hb (by omega),h.a8.grow hb,h.k8,o1,o2,o3,o4,o5,ltl o6 hb.size⟩
theorem TS.markX (h:TS W S b6 z6 b7 b9 b8 gx r A m ma mc O A2 rx p3 sx Ox p5) (k0:Nat) (hx:RcAt W' (ykRc k0 rx) p3) (hf:FrP (rbs p3 rx) W W'):TS W' S b6 z6 b7 b9 b8 gx r A m ma mc O A2 (ykRc k0 rx) p3 sx Ox p5:=by
 obtain ⟨o1,o2,o3,o4,o5,o6⟩:=h.o
 have hn:∀ q,q<z6∨b7≤q→¬rbs p3 rx q:=fun q hq e=>by have:=h.k7 q e;omega
 have hz:Below z6 W W':=hf.below (B:=z6) (fun k hk=>hn k (by omega)) (by omega)
 exact ⟨h.bx.frP hf (hn _ (by omega)),h.mx.frP hf (hn _ (by omega)),h.arg.below hz (by omega),h.mar.below hz (by omega),h.v6.frP hf (hn _ (by omega)),h.i6.below hz (lrf _),h.v7.frP hf (hn _ (by omega)),hx,fun k hk=>h.k7 k ((rbs_yk p3 k0 rx k).1 hk),h.v9.frP hf (hn _ (by omega)),h.a9.frP hf (fun h0=>⟨hn _ (by have:=h.k9 h0;omega),by have:=h.k9 h0;omega⟩),h.k9,h.v8.frP hf (hn _ (by omega)),h.a8.fr hf (fun k hk=>hn k (by have:=h.k8 k hk;omega)),h.k8,o1,o2,o3,o4,o5,ltl o6 hf.size⟩
theorem TS.markM (h:TS W S b6 z6 b7 b9 b8 gx r A m ma mc O A2 rx p3 sx Ox p5) {sy:Nat→Sl} (hx:SlsAt W' (some ⟨gx,0,none⟩) gx m.n sy) (hf:FrP (fun q=>m.n≠0∧q=gx) W W'):TS W' S b6 z6 b7 b9 b8 gx r A m ma mc O A2 rx p3 sy Ox p5:=by
 obtain ⟨o1,o2,o3,o4,o5,o6⟩:=h.o
 have hn:∀ q,q≤b7∨b9≤q→¬(m.n≠0∧q=gx):=fun q hq e=>by have:=h.k9 e.1;have:=e.2;omega
 have hz:Below z6 W W':=hf.below (B:=z6) (fun k hk=>hn k (by omega)) (by omega)
 exact ⟨h.bx.frP hf (hn _ (by omega)),h.mx.frP hf (hn _ (by omega)),h.arg.below hz (by omega),h.mar.below hz (by omega),h.v6.frP hf (hn _ (by omega)),h.i6.below hz (lrf _),h.v7.frP hf (hn _ (by omega)),h.a7.fr hf (fun k hk=>hn k (by have:=h.k7 k hk;omega)),h.k7,h.v9.frP hf (hn _ (by omega)),hx,h.k9,h.v8.frP hf (hn _ (by omega)),h.a8.fr hf (fun k hk=>hn k (by have:=h.k8 k hk;omega)),h.k8,o1,o2,o3,o4,o5,ltl o6 hf.size⟩
theorem TS.markG (h:TS W S b6 z6 b7 b9 b8 gx r A m ma mc O A2 rx p3 sx Ox p5) (k0:Nat) (hx:RcAt W' (ykRc k0 Ox) p5) (hf:FrP (rbs p5 Ox) W W'):TS W' S b6 z6 b7 b9 b8 gx r A m ma mc O A2 rx p3 sx (ykRc k0 Ox) p5:=by
 obtain ⟨o1,o2,o3,o4,o5,o6⟩:=h.o
 have hn:∀ q,q≤b9∨b8≤q→¬rbs p5 Ox q:=fun q hq e=>by have:=h.k8 q e;omega
 have hz:Below z6 W W':=hf.below (B:=z6) (fun k hk=>hn k (by omega)) (by omega)
 exact ⟨h.bx.frP hf (hn _ (by omega)),h.mx.frP hf (hn _ (by omega)),h.arg.below hz (by omega),h.mar.below hz (by omega),h.v6.frP hf (hn _ (by omega)),h.i6.below hz (lrf _),h.v7.frP hf (hn _ (by omega)),h.a7.fr hf (fun k hk=>hn k (by have:=h.k7 k hk;omega)),h.k7,h.v9.frP hf (hn _ (by omega)),h.a9.frP hf (fun h0=>⟨hn _ (by have:=h.k9 h0;omega),by have:=h.k9 h0;omega⟩),h.k9,h.v8.frP hf (hn _ (by omega)),hx,fun k hk=>h.k8 k ((rbs_yk p5 k0 Ox k).1 hk),o1,o2,o3,o4,o5,ltl o6 hf.size⟩
theorem TS.lowX (h:TS W S b6 z6 b7 b9 b8 gx r A m ma mc O A2 rx p3 sx Ox p5) (hf:FrP (rbs p3 rx) W W'):Below S W W':=by
 obtain ⟨o1,o2,o3,o4,o5,o6⟩:=h.o
 exact hf.below (B:=S) (fun k hk e=>by have:=h.k7 k e;omega) (by omega)
theorem TS.lowM (h:TS W S b6 z6 b7 b9 b8 gx r A m ma mc O A2 rx p3 sx Ox p5) (hf:FrP (fun q=>m.n≠0∧q=gx) W W'):Below S W W':=by
 obtain ⟨o1,o2,o3,o4,o5,o6⟩:=h.o
 exact hf.below (B:=S) (fun k hk e=>by have:=h.k9 e.1;have:=e.2;omega) (by omega)
theorem TS.lowG (h:TS W S b6 z6 b7 b9 b8 gx r A m ma mc O A2 rx p3 sx Ox p5) (hf:FrP (rbs p5 Ox) W W'):Below S W W':=by
 obtain ⟨o1,o2,o3,o4,o5,o6⟩:=h.o
 exact hf.below (B:=S) (fun k hk e=>by have:=h.k8 k e;omega) (by omega)
theorem TS.g8 (h:TS W S b6 z6 b7 b9 b8 gx r A m ma mc O A2 rx p3 sx O p5):RcIn W (b9+1) b8 O p5.A:=h.a8.isIn (fun k hk=>by have:=h.k8 k hk;omega)
theorem TS.x7 (h:TS W S b6 z6 b7 b9 b8 gx r A m ma mc O A2 r p3 sx Ox p5):RcIn W z6 b7 r p3.A:=h.a7.isIn (fun k hk=>by have:=h.k7 k hk;omega)
theorem TS.m9 (h:TS W S b6 z6 b7 b9 b8 gx r A m ma mc O A2 rx p3 m.s Ox p5):SlsIn W 0 W.1.size (some ⟨gx,0,none⟩) m.n m.s:=by
 obtain ⟨o1,o2,o3,o4,o5,o6⟩:=h.o
 exact h.a9.isIn (fun h0=>⟨zle _,by have:=h.k9 h0;omega⟩)
end
theorem SlsOwn.atG {w:World} {lo hi g:Nat} {n:Nat} {x:Nat→Sl} (h:SlsOwn w lo hi (some ⟨g,0,none⟩) n x):SlsAt w (some ⟨g,0,none⟩) g n x∧(n≠0→lo≤g∧g<hi):=by
 obtain ⟨g',h1,h2,h3⟩:=h.at
 by_cases h0:n=0
 ·subst h0
  exact ⟨⟨fun h=>absurd h (by omega),fun h=>absurd h (by omega)⟩,fun h=>absurd rfl h⟩
 ·have e:=h1.addr (by omega)
  cases e
  exact ⟨h1,fun _=>⟨h2,h3⟩⟩
theorem mkMss_ge (k0:Nat) (x:Nat→Ms):∀ n,k0≤ZS k0 x n
 | 0=>lrf _
 | n+1=>ltr (mkMss_ge k0 x n) (by show _≤ZS k0 x n+7+2*(x n).n;omega)
theorem mkAks_ge (k0:Nat) (x:Nat→Ak):∀ n,k0≤ZT k0 x n
 | 0=>lrf _
 | n+1=>ltr (mkAks_ge k0 x n) (by show _≤ZT k0 x n+1+(x n).n;omega)
theorem mkRc_ge (k0:Nat) (r:Rc):k0≤mkRc k0 r:=by
 have h1:=mkAks_ge (kk6 k0 r) r.as_ r.an
 have h2:=mkMss_ge (kk2 k0 r) r.hs r.hn
 unfold mkRc
 unfold kk6 kk5 kk4 kk3 at *
 unfold kk2 kk1 at *
 omega
set_option maxRecDepth 100000 in
theorem take_law (r:Rc) (A:RcA) (m:Ms) (ma:Option Addr) (mc:Nat) (w:World) (hf:ZR r) (hc:RcIn w 0 w.1.size r A) (hmf:Ji m) (hms:SlsIn w 0 w.1.size ma m.n m.s) :
  Calls Tryz.prog 4 #[rcV r A,msV m ma mc] w fun e w'=>e=.returned (.bool true)∧Below w.1.size w w':=by
 have HF:=hid hf
 have HC:=hid hc
 have HMF:=hid hmf
 have HMS:=hid hms
 have hN:=Bx.new2 w (rcC r A) (msC m ma mc) 30 48
 have Q0:=hid hN.1
 have M0:=hid hN.2
 have hB0:Below w.1.size w ((w.alloc (.cells (rcC r A) 30)).alloc (.cells (msC m ma mc) 48)):=(Zb _ _).alloc (by simp) _
 have HB0:=hid hB0
 clear hf hc hmf hms hN hB0
 have mark:Nat:=0
 go_enter Tryz.func4,Tryz.ntmps4
 go_wp2_with (first|((with_reducible show wpList _ _ _ (⟨some 14,_,_,_,_,_⟩::_) _ _);clear mark;go_must (generalize ((w.alloc (.cells (rcC r A) 30)).alloc (.cells (msC m ma mc) 48))=W at *))|((with_reducible show wpList _ _ _ (⟨some 14,Op.load 30 _,_,_,_,_⟩::_) _ _);go_must (refine LD30 (rcC r A).toList Q0.out.cell ?_)))
 refine (szRc_any r A 1048576 W (by omega) (by omega) 0 w.1.size HB0.out.size HF.out (HC.out.below HB0.out (lrf _))).mono ?_
 rintro e w1 ⟨rfl,hb1⟩
 have hB1:Below w.1.size w w1:=HB0.out.trans (hb1.mono HB0.out.size)
 have Q1:=hid (Q0.out.below hb1 Q0.out.lt)
 have M1:=hid (M0.out.below hb1 M0.out.lt)
 clear hb1 Q0 M0 HB0
 by_cases hsz:Yb 1048576 (szRc r)<0
 ·clear Q1 M1
  go_wp2
  go_ret
  exact ⟨rfl,hB1⟩
 have HSZ:=hid (Yu (l:=1048576) (s:=szRc r) (by omega)).1
 have hlf:=(Yu (l:=1048576) (s:=szRc r) (by omega)).2
 have HM:=hid (rcSmall_of HSZ.out)
 have hlf1:Yb 1048576 (szRc r)≤1048576:=by omega
 clear hlf
 go_wp2_with (first|((with_reducible show wpList _ _ _ (⟨some 19,Op.load 48 _,_,_,_,_⟩::_) _ _);go_must (refine LD48 (msC m ma mc).toList M1.out.cell ?_)))
 refine (szMs_any m ma mc (Yb 1048576 (szRc r)) w1 (by omega) hlf1 0 w.1.size hB1.size HMF.out (HMS.out.below hB1 (lrf _))).mono ?_
 rintro e w2 ⟨rfl,hb2⟩
 have hB2:Below w.1.size w w2:=hB1.trans (hb2.mono hB1.size)
 have Q2:=hid (Q1.out.below hb2 Q1.out.lt)
 have M2:=hid (M1.out.below hb2 M1.out.lt)
 clear hb2 Q1 M1
 by_cases hsz2:Yb (Yb 1048576 (szRc r)) (szMs m)<0
 ·clear Q2 M2
  go_wp2
  go_ret
  exact ⟨rfl,hB2⟩
 have hmn:(m.n:Int)≤1048576:=by
  have h:=(Yu (l:=Yb 1048576 (szRc r)) (s:=szMs m) (by omega)).1
  unfold szMs YJ at h
  omega
 have HOF:=hid (Kt r m).fit
 have HOS:=hid (Kt r m).small
 have HOM:=hid ((Kt r m).mark 1)
 have HRM:=hid (mkRc_le 1 r)
 have HSP:Hid (∀ X A1 g,ZX r A1→RcIn X 0 X.1.size r A1→SlsIn X 0 X.1.size (some ⟨g,0,none⟩) m.n m.s→Calls Tryz.prog 17 #[rcV r A1,msV m (some ⟨g,0,none⟩) m.n] X fun e w'=>∃ A2,e=.returned (rcV (outT r m) A2)∧RcIn w' X.1.size w'.1.size (outT r m) A2∧Below X.1.size X w'):=hid (fun X A1 g _ h2 h3=>specTake_any r A1 m (some ⟨g,0,none⟩) m.n X 0 X.1.size (lrf _) HM.out HF.out h2 HMF.out 0 X.1.size (lrf _) h3)
 have cI:Hid (∀ (A:RcA) (g:Nat) (w:World) (lo hi lo2 hi2:Nat),hi≤w.1.size→ZX r A→RcIn w lo hi r A→hi2≤w.1.size→SlsIn w lo2 hi2 (some ⟨g,0,none⟩) m.n m.s→Calls Tryz.prog 19 #[rcV r A,msV m (some ⟨g,0,none⟩) m.n] w fun e w'=>∃ p,e=.returned (rcV (outT r m) p.A)∧RcAt w' (outT r m) p∧(∀ k,rbs p (outT r m) k→w.1.size≤k)∧Below w.1.size w w'):=hid (fun A g w lo hi lo2 hi2 h1 h2 h3 h4 h5=>implTake_any r A m g 0 m.n w lo hi h1 HM.out HF.out h2 h3 HMF.out (lrf _) lo2 hi2 h4 h5)
 generalize outT r m=O at *
 have z2:w.1.size+1<w2.1.size:=M2.out.lt
 go_wp2
 refine tlReg8 _ _ _ _ _ _ _ _ _ _ _ _ _ _ _ _ _ _ _ _ _ _ _ _ _ _ _ _ _ _ _ _ _ _ _ _ _ _ _ _ _ _ _ _ _ _ _ _ _ _ _ _ _ _ _ _ _ _ _ _ _ _ _ _ _ _ _ _ _ _ _ _ _ _ _ _ _ _ _ _ _ _ _ _ w.1.size r A m ma mc O HM.out hmn w2 Q2.out M2.out (HC.out.below hB2 (lrf _)) (HMS.out.below hB2 (lrf _)) HSP.out _ ?_
 intro u0 u1 u2 u3 A2 b6 w3 hin2 hbx6 hle6 hb3
 have hB3:Below w.1.size w w3:=hB2.trans (hb3.mono hB2.size)
 have Q3:=hid (Q2.out.below hb3 Q2.out.lt)
 have M3:=hid (M2.out.below hb3 M2.out.lt)
 have I3:=hid hin2
 have B3:=hid hbx6
 have z3:=hb3.size
 have l6:b6<w3.1.size:=hbx6.lt
 clear hin2 hbx6 hb3 Q2 M2 HSP hB2
 go_wp2_with (first|((with_reducible show wpList _ _ _ (⟨some 29,Op.load 30 _,_,_,_,_⟩::_) _ _);go_must (refine LD30 (rcC r A).toList Q3.out.cell ?_)))
 refine (K8 r A w3 0 w.1.size hB3.size HM.out (HC.out.below hB3 (lrf _))).mono ?_
 rintro e w4 ⟨A3,n1,n2,n3,n4,n5,n6,rfl,hn3,ho3,hb4⟩
 have hB4:Below w.1.size w w4:=hB3.trans (hb4.mono hB3.size)
 have Q4:=hid (Q3.out.below hb4 Q3.out.lt)
 have M4:=hid (M3.out.below hb4 M3.out.lt)
 have B4:=hid (B3.out.below hb4 l6)
 have I4:=hid (I3.out.below hb4 (lrf _))
 have z4:=hb4.size
 have HN3:=hid hn3
 obtain ⟨p3,hp3,hat3,hge3⟩:=ho3.at
 subst hp3
 have X4:=hid hat3
 have G4:=hid hge3
 clear hn3 ho3 hat3 hge3 hb4 Q3 M3 B3 I3 hB3
 go_wp2_with (first|((with_reducible show wpList _ _ _ (⟨none,Op.store 38 _ _,_,_,_,_⟩::_) _ _);go_must (refine Zd (c:=((rcL 0 0 false):List Value).toArray) rfl 38 _ _ rfl w4.1.size (rcC r p3.A).toList rfl rfl (Bx.new w4 ((rcL 0 0 false):List Value).toArray 38) rfl Tryz.sz38 (by simp [Value.oneCell']) ?_;intro V1 hr hfr hsv;have BV1:=hid hr;have DV1:Below w4.1.size w4 V1:=(Zb w4 _).trans (hfr.below (B:=w4.1.size) (lrf _) (by simp));have LV1:w4.1.size<V1.1.size:=hr.lt;clear hr hfr hsv;have Q5:=hid (Q4.out.below DV1 Q4.out.lt);have M5:=hid (M4.out.below DV1 M4.out.lt);have hB5:=hB4.trans (DV1.mono hB4.size);have I5:=hid (I4.out.below DV1 (by omega));have B5:=hid (B4.out.below DV1 B4.out.lt);have X5:=hid (X4.out.grow DV1);have HLT3:=hid X4.out.lt;clear Q4 M4 I4 B4 X4 hB4))|((with_reducible show wpList _ _ _ (⟨some 31,Op.load 48 _,_,_,_,_⟩::_) _ _);go_must (refine LD48 (msC m ma mc).toList M5.out.cell ?_)))
 refine (JQ m ma mc V1 0 w.1.size hB5.size (by omega) (HMS.out.below hB5 (lrf _))).mono ?_
 rintro e w5 ⟨gx,rfl,hox,hb6⟩
 obtain ⟨hax,hgx⟩:=hox.atG
 have hB6:Below w.1.size w w5:=hB5.trans (hb6.mono hB5.size)
 have Q6:=hid (Q5.out.below hb6 Q5.out.lt)
 have M6:=hid (M5.out.below hb6 M5.out.lt)
 have I6:=hid (I5.out.below hb6 (by omega))
 have B6:=hid (B5.out.below hb6 B5.out.lt)
 have X6:=hid (X5.out.grow hb6)
 have V6:=hid (BV1.out.below hb6 LV1)
 have AX6:=hid hax
 have GX6:=hid hgx
 have z5:=hb6.size
 clear hox hax hgx hb6 Q5 M5 I5 B5 X5 BV1 hB5 DV1
 go_wp2_with (first|((with_reducible show wpList _ _ _ (⟨none,Op.store 52 _ _,_,_,_,_⟩::_) _ _);go_must (refine Zd (c:=([.int .i64 0,.int .i64 0,.int .i64 0,.int .i64 0,.int .i64 0,.int .i64 0,.string ⟨#[]⟩,.slice none 0 0]:List Value).toArray) rfl 52 _ _ rfl w5.1.size (msC m (some ⟨gx,0,none⟩) m.n).toList rfl rfl (Bx.new w5 ([.int .i64 0,.int .i64 0,.int .i64 0,.int .i64 0,.int .i64 0,.int .i64 0,.string ⟨#[]⟩,.slice none 0 0]:List Value).toArray 52) rfl Tryz.sz52 (by simp [Value.oneCell']) ?_;intro V2 hr hfr hsv;have BV2:=hid hr;have DV2:Below w5.1.size w5 V2:=(Zb w5 _).trans (hfr.below (B:=w5.1.size) (lrf _) (by simp));have LV2:w5.1.size<V2.1.size:=hr.lt;clear hr hfr hsv;have Q7:=hid (Q6.out.below DV2 Q6.out.lt);have M7:=hid (M6.out.below DV2 M6.out.lt);have hB7:=hB6.trans (DV2.mono hB6.size);have I7:=hid (I6.out.below DV2 (by omega));have B7:=hid (B6.out.below DV2 B6.out.lt);have X7:=hid (X6.out.grow DV2);have V7:=hid (V6.out.below DV2 V6.out.lt);have AX7:=hid (AX6.out.grow DV2);clear Q6 M6 I6 B6 X6 V6 AX6 hB6))|((with_reducible show wpList _ _ _ (⟨some 33,Op.load 38 _,_,_,_,_⟩::_) _ _);go_must (refine LD38 (rcC r p3.A).toList V7.out.cell ?_))|((with_reducible show wpList _ _ _ (⟨some 34,Op.load 52 _,_,_,_,_⟩::_) _ _);go_must (refine LD52 (msC m (some ⟨gx,0,none⟩) m.n).toList BV2.out.cell ?_)))
 refine (cI.out p3.A gx V2 0 w4.1.size 0 w5.1.size (by omega) HN3.out (X7.out.isIn (fun k hk=>⟨zle _,HLT3.out k hk⟩)) (Nat.le_of_lt LV2) (AX7.out.isIn (fun h0=>⟨zle _,(GX6.out h0).2⟩))).mono ?_
 rintro e w6 ⟨p5,rfl,hat5,hge5,hb8⟩
 have hB8:Below w.1.size w w6:=hB7.trans (hb8.mono hB7.size)
 have Q8:=hid (Q7.out.below hb8 Q7.out.lt)
 have M8:=hid (M7.out.below hb8 M7.out.lt)
 have I8:=hid (I7.out.below hb8 (by omega))
 have B8:=hid (B7.out.below hb8 B7.out.lt)
 have X8:=hid (X7.out.grow hb8)
 have V8:=hid (V7.out.below hb8 V7.out.lt)
 have AX8:=hid (AX7.out.grow hb8)
 have N8:=hid (BV2.out.below hb8 LV2)
 have G8:=hid hat5
 have GE8:=hid hge5
 have z6:=hb8.size
 clear hat5 hge5 hb8 Q7 M7 I7 B7 X7 V7 AX7 BV2 hB7 DV2
 go_wp2_with (first|((with_reducible show wpList _ _ _ (⟨none,Op.store 38 _ _,_,_,_,_⟩::_) _ _);go_must (refine Zd (c:=((rcL 0 0 false):List Value).toArray) rfl 38 _ _ rfl w6.1.size (rcC O p5.A).toList rfl rfl (Bx.new w6 ((rcL 0 0 false):List Value).toArray 38) rfl Tryz.sz38 (by simp [Value.oneCell']) ?_;intro V3 hr hfr hsv;have BV3:=hid hr;have DV3:Below w6.1.size w6 V3:=(Zb w6 _).trans (hfr.below (B:=w6.1.size) (lrf _) (by simp));have LV3:w6.1.size<V3.1.size:=hr.lt;clear hr hfr hsv;have hB9:=hB8.trans (DV3.mono hB8.size);have LT5:=hid G8.out.lt;have WS0:Hid (TS V3 w.1.size b6 w3.1.size w4.1.size w5.1.size w6.1.size gx r A m ma mc O A2 r p3 m.s O p5):=⟨Q8.out.below DV3 Q8.out.lt,M8.out.below DV3 M8.out.lt,HC.out.below hB9 (lrf _),HMS.out.below hB9 (lrf _),B8.out.below DV3 B8.out.lt,(I8.out.below DV3 (by omega)).mono (by omega) (lrf _),V8.out.below DV3 V8.out.lt,X8.out.grow DV3,(fun k hk=>⟨G4.out k hk,HLT3.out k hk⟩),N8.out.below DV3 N8.out.lt,AX8.out.grow DV3,(fun h0=>⟨by have:=(GX6.out h0).1;omega,(GX6.out h0).2⟩),BV3.out,G8.out.grow DV3,(fun k hk=>⟨by have:=GE8.out k hk;omega,LT5.out k hk⟩),by omega,l6,z4,by omega,by omega,LV3⟩;clear Q8 M8 I8 B8 X8 V8 AX8 N8 G8 G4 GX6 GE8))|((with_reducible show wpList _ _ _ (⟨some 36,Op.load 38 _,_,_,_,_⟩::_) _ _);go_must (refine LD38 (rcC O p5.A).toList WS0.out.v8.cell ?_))|((with_reducible show wpList _ _ _ (⟨some 37,Op.load 38 _,_,_,_,_⟩::_) _ _);go_must (refine LD38 (rcC O A2).toList WS0.out.v6.cell ?_)))
 refine (Kg O p5.A A2 V3 (w5.1.size+1) w6.1.size (w.1.size+2) w3.1.size (by omega) (by omega) HOF.out WS0.out.g8 WS0.out.i6).mono ?_
 rintro e w7 ⟨rfl,hb10⟩
 have WS1:=hid (WS0.out.below hb10)
 have hB10:Below w.1.size w w7:=hB9.trans (hb10.mono hB9.size)
 have z7:=hb10.size
 clear hb10 WS0 BV3 DV3 LT5 hB8 hB9 HN3 HLT3
 go_wp2
 refine tlReg14 _ _ _ _ _ _ _ _ _ _ _ _ _ _ _ _ _ _ _ _ _ _ _ _ _ _ _ _ _ _ _ _ _ _ _ _ _ _ _ _ _ _ _ _ _ _ _ _ _ _ _ _ _ _ _ _ _ _ _ _ _ _ _ _ _ _ _ _ _ _ _ _ _ _ _ _ _ _ _ _ _ _ _ _ _ w.1.size w4.1.size r A p3.A HF.out HM.out w7 (Holds.range (cs:=(rcC r p3.A).toList) WS1.out.v7.cell) (Holds.range (cs:=(rcC r A).toList) WS1.out.bx.cell) (WS1.out.x7.mono (zle _) (by omega)) WS1.out.arg WS1.out.bx.lt WS1.out.v7.lt _ ?_
 intro u4 u5 u6 u7 w8 hb11
 have WS2:=hid (WS1.out.below hb11)
 have hB11:Below w.1.size w w8:=hB10.trans (hb11.mono hB10.size)
 clear hb11 WS1 hB10
 go_wp2
 refine tlReg16 _ _ _ _ _ _ _ _ _ _ _ _ _ _ _ _ _ _ _ _ _ _ _ _ _ _ _ _ _ _ _ _ _ _ _ _ _ _ _ _ _ _ _ _ _ _ _ _ _ _ _ _ _ _ _ _ _ _ _ _ _ _ _ _ _ _ _ _ _ _ _ _ _ _ _ _ _ _ _ _ _ _ _ _ _ w.1.size w5.1.size gx m ma mc hmn w8 (Holds.range (cs:=(msC m (some ⟨gx,0,none⟩) m.n).toList) WS2.out.v9.cell) (Holds.range (cs:=(msC m ma mc).toList) WS2.out.mx.cell) WS2.out.m9 WS2.out.mar WS2.out.mx.lt WS2.out.v9.lt _ ?_
 intro u8 u9 u10 u11 w9 hb12
 have WS3:=hid (WS2.out.below hb12)
 have hB12:Below w.1.size w w9:=hB11.trans (hb12.mono hB11.size)
 clear hb12 WS2 hB11
 go_wp2_with (first|((with_reducible show wpList _ _ _ (⟨some 50,Op.load 38 _,_,_,_,_⟩::_) _ _);go_must (refine LD38 (rcC r p3.A).toList WS3.out.v7.cell ?_)))
 refine (Uj r p3 1 w9 HM.out (lrf _) (by have:=HRM.out;have:=HSZ.out;omega) WS3.out.a7).mono ?_
 rintro e w10 ⟨rfl,hx10,hf10⟩
 have WS4:=hid (WS3.out.markX 1 hx10 hf10)
 have hB13:Below w.1.size w w10:=hB12.trans (WS3.out.lowX hf10)
 have HK1:Hid (1≤mkRc 1 r∧mkRc 1 r≤100000000):=hid ⟨mkRc_ge 1 r,by have:=HRM.out;have:=HSZ.out;omega⟩
 generalize mkRc 1 r=km at *
 clear hx10 hf10 WS3 hB12
 go_wp2_with (first|((with_reducible show wpList _ _ _ (⟨some 53,Op.load 52 _,_,_,_,_⟩::_) _ _);go_must (refine LD52 (msC m (some ⟨gx,0,none⟩) m.n).toList WS4.out.v9.cell ?_)))
 refine (markMs_any m m.s (some ⟨gx,0,none⟩) m.n gx km w10 (fun h0=>by have:=WS4.out.k9 h0;have:=WS4.out.o;omega) hmn HK1.out.1 HK1.out.2 WS4.out.a9).mono ?_
 rintro e w11 ⟨rfl,hx11,hf11⟩
 have WS5:=hid (WS4.out.markM hx11 hf11)
 have hB14:Below w.1.size w w11:=hB13.trans (WS4.out.lowM hf11)
 have hkm:¬((km+2*m.n:Nat):Int)<0:=by omega
 generalize km+2*m.n=kn at *
 clear hx11 hf11 WS4 hB13
 go_wp2_with (first|((with_reducible show wpList _ _ _ (⟨some 59,Op.load 38 _,_,_,_,_⟩::_) _ _);go_must (refine ZF ?hw 38 _ rfl w6.1.size 0 rfl (rcC O p5.A).toList _ (Holds.range (cs:=(rcC O p5.A).toList) WS5.out.v8.cell) Tryz.underlying38 rfl Tryz.sz38 ?_;(case hw=>(go_simp;done))))|((with_reducible show wpList _ _ _ (⟨some 60,Op.load 38 _,_,_,_,_⟩::_) _ _);go_must (refine ZF ?hw 38 _ rfl b6 0 rfl (rcC O A2).toList _ (Holds.range (cs:=(rcC O A2).toList) WS5.out.v6.cell) Tryz.underlying38 rfl Tryz.sz38 ?_;(case hw=>(go_simp;done))))|(go_at_call 10;go_must (refine (Kg O p5.A A2 w11 (w5.1.size+1) w6.1.size (w.1.size+2) w3.1.size (Nat.le_of_lt WS5.out.v8.lt) (by have:=WS5.out.o;omega) HOF.out WS5.out.g8 WS5.out.i6).mono ?_;rintro e w12 ⟨rfl,hb15⟩;have WS6:=hid (WS5.out.below hb15);have hB15:Below w.1.size w w12:=hB14.trans (hb15.mono hB14.size);clear hb15 WS5 hB14))|((with_reducible show wpList _ _ _ (⟨some 64,Op.load 38 _,_,_,_,_⟩::_) _ _);go_must (refine LD38 (rcC O p5.A).toList WS6.out.v8.cell ?_)))
 refine (Uj O p5 1 w12 HOS.out (lrf _) (by have:=HOM.out;omega) WS6.out.a8).mono ?_
 rintro e w13 ⟨rfl,hx13,hf13⟩
 have WS7:=hid (WS6.out.markG 1 hx13 hf13)
 have hB16:Below w.1.size w w13:=hB15.trans (WS6.out.lowG hf13)
 have HMB:Hid (mkRc 1 O≤1073741824):=hid (by have:=HOM.out;omega)
 have hkm2:¬((mkRc 1 O:Nat):Int)<0:=by omega
 clear hx13 hf13 WS6 hB15
 go_wp2_with (first|((with_reducible show wpList _ _ _ (⟨some 67,Op.load 38 _,_,_,_,_⟩::_) _ _);go_must (refine LD38 (rcC O p5.A).toList WS7.out.v8.cell ?_)))
 refine (Up O p5 1 w13 HOS.out (lrf _) HMB.out WS7.out.a8).mono ?_
 rintro e w14 ⟨rfl,hb17⟩
 have WS8:=hid (WS7.out.below hb17)
 have hB17:Below w.1.size w w14:=hB16.trans (hb17.mono hB16.size)
 clear hb17 WS7 hB16
 go_wp2
 refine tlReg31 _ _ _ _ _ _ _ _ _ _ _ _ _ _ _ _ _ _ _ _ _ _ _ _ _ _ _ _ _ _ _ _ _ _ _ _ _ _ _ _ _ _ _ _ _ _ _ _ _ _ _ _ _ _ _ _ _ _ _ _ _ _ _ _ _ _ _ _ _ _ _ _ _ _ _ _ _ _ _ _ _ _ _ _ w.1.size r A m ma mc O HM.out hmn w14 WS8.out.bx WS8.out.mx WS8.out.arg WS8.out.mar (fun X A1 g h1 h2 h3=>(cI.out A1 g X 0 X.1.size 0 X.1.size (lrf _) h1 h2 (lrf _) h3).mono fun e w' ⟨p,he,ha,hg,hb⟩=>⟨p.A,he,ha.isIn (fun k hk=>⟨hg k hk,ha.lt k hk⟩),hb⟩) _ ?_
 intro u12 u13 u14 u15 A7 b13 w15 hin7 hbx7 hle7 hb18
 have WS9:=hid (WS8.out.below hb18)
 have hB18:Below w.1.size w w15:=hB17.trans (hb18.mono hB17.size)
 have I9:=hid hin7
 have B9:=hid hbx7
 clear hin7 hbx7 hb18 WS8 hB17
 go_wp2_with (first|((with_reducible show wpList _ _ _ (⟨some 80,Op.load 38 _,_,_,_,_⟩::_) _ _);go_must (refine LD38 (rcC O A7).toList B9.out.cell ?_))|((with_reducible show wpList _ _ _ (⟨some 81,Op.load 38 _,_,_,_,_⟩::_) _ _);go_must (refine LD38 (rcC O A2).toList WS9.out.v6.cell ?_)))
 refine (Kg O A7 A2 w15 w14.1.size w15.1.size (w.1.size+2) w3.1.size (lrf _) (by have:=WS9.out.o;omega) HOF.out I9.out WS9.out.i6).mono ?_
 rintro e w16 ⟨rfl,hb19⟩
 have WS10:=hid (WS9.out.below hb19)
 have hB19:Below w.1.size w w16:=hB18.trans (hb19.mono hB18.size)
 clear hb19 WS9 hB18 I9 B9
 go_wp2_with (first|((with_reducible show wpList _ _ _ (⟨some 84,Op.load 38 _,_,_,_,_⟩::_) _ _);go_must (refine LD38 (rcC O p5.A).toList WS10.out.v8.cell ?_)))
 refine (Up O p5 1 w16 HOS.out (lrf _) HMB.out WS10.out.a8).mono ?_
 rintro e w17 ⟨rfl,hb20⟩
 have hB20:Below w.1.size w w17:=hB19.trans (hb20.mono hB19.size)
 clear hb20 WS10 hB19
 go_wp2
 go_ret
 exact ⟨rfl,hB20⟩
end Go.Proofs.YtokkbdlofbdljaaGreat
