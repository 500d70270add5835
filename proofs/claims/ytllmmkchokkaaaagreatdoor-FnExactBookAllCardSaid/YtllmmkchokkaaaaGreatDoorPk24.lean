import Derived.Test.YtllmmkchokkaaaaGreatDoorPk22
import Derived.Test.YtllmmkchokkaaaaGreatDoorPk23
set_option maxRecDepth 100000
set_option maxHeartbeats 4000000
namespace Go.Proofs.YtllmmkchokkaaaaGreatDoor
open Go.RowKit Go.Maps
theorem own_rowC {w:World} {base e z n:Nat} {ad:Option Addr} {cap:Nat} {xs:List Value} (h:w.ownsRow base e z (.slice ad n cap) n xs) (h1:∀ u ∈ xs,u.oneCell'=true):∃ g,RowC w z ad g 0 n cap xs∧(ad≠none→ad=some ⟨g,0,none⟩∧base≤g∧g<w.1.size∧∀ j,w.frozen? ⟨g,j,none⟩=false):=by
 rcases h.2 with ⟨e1,e2⟩|⟨g,cap',cur,e1,e2,e3,e4⟩
 ·cases e1
  exact ⟨0,⟨h.1,h1,Or.inl ⟨rfl,e2,rfl⟩⟩,fun q=>absurd rfl q⟩
 ·cases e1
  have hg:g<w.1.size:=(Array.getElem?_eq_some_iff.1 e3).1
  refine ⟨g,⟨h.1,h1,Or.inr ⟨rfl,e4.1,hg,fun t u hu=>?_⟩⟩,fun _=>⟨rfl,e2,hg,fun j=>h.frozenAt j⟩⟩
  have ht:t<n*z:=by rw [←h.1];exact (List.getElem?_eq_some_iff.1 hu).1
  rw [Nat.zero_add,h.cellAt t ht]
  exact hu
theorem set5_1 (v0 v1 v2 v3 v4 v:Value):∀ j,j<5→vec [v0,v,v2,v3,v4] j=setF (vec [v0,v1,v2,v3,v4]) 1 v j:=fun j hj=>by
 rcases (show j=0∨j=1∨j=2∨j=3∨j=4 by omega) with rfl|rfl|rfl|rfl|rfl<;>rfl
theorem set5_0 (v0 v1 v2 v3 v4 v:Value):∀ j,j<5→vec [v,v1,v2,v3,v4] j=setF (vec [v0,v1,v2,v3,v4]) 0 v j:=fun j hj=>by
 rcases (show j=0∨j=1∨j=2∨j=3∨j=4 by omega) with rfl|rfl|rfl|rfl|rfl<;>rfl
theorem set5_3 (v0 v1 v2 v3 v4 v:Value):∀ j,j<5→vec [v0,v1,v2,v,v4] j=setF (vec [v0,v1,v2,v3,v4]) 3 v j:=set_v3 v0 v1 v2 v3 v4 v
theorem tell_few (K:Nat) (x:Ch) (A:Option Addr) (C:Nat) (v0 v1 v2 v4:Value) (a2:Option Addr) (b off hn c2:Nat) (cs:List Value) (w:World) (hk:RowF w K 5 (vec [v0,v1,v2,.slice a2 hn c2,v4])) (hc:RowC w 9 a2 b off hn c2 cs) (hl:(hn:Int)≤100000) (h200:¬hn=200) :
  Calls Tryz.prog 161 #[.pointer (some ⟨K,0,none⟩),.agg #[.int .i64 x.ver,.bool x.gone,.string x.ob.kind,.string x.ob.name,.int .i64 x.ob.ver,.int .i64 x.ob.born,.string x.ob.text,.bool x.ob.ending,.slice A x.ob.hn C]] w fun e w'=>e=.returned (.tuple #[])∧∃ a4 c4,w'.ownsRow w.1.size 120 9 (.slice a4 (hn+1) c4) (hn+1) (cs ++ [.int .i64 x.ver,.bool x.gone,.string x.ob.kind,.string x.ob.name,.int .i64 x.ob.ver,.int .i64 x.ob.born,.string x.ob.text,.bool x.ob.ending,.slice A x.ob.hn C])∧RowF w' K 5 (vec [v0,v1,v2,.slice a4 (hn+1) c4,v4])∧FrP (fun q=>q=K) w w':=by
 have hB:=below_alloc w (.cells #[.int .i64 x.ver,.bool x.gone,.string x.ob.kind,.string x.ob.name,.int .i64 x.ob.ver,.int .i64 x.ob.born,.string x.ob.text,.bool x.ob.ending,.slice A x.ob.hn C] 120)
 have HC:=hid (hc.grow hB)
 have zK:=hk.lt
 have RK:=hid (hk.below hB hk.lt)
 have hn1:((hn:Int)==200)=false:=Zc
 have k0:=hk.cell 0 Ze
 have k1:=hk.cell 1 Ze
 have k2:=hk.cell 2 Ze
 have k3:=hk.cell 3 Ze
 have k4:=hk.cell 4 Ze
 have kf:=hk.free
 simp only [vec,List.getD_cons_zero,List.getD_cons_succ] at k0 k1 k2 k3 k4
 have RK0:=hid hk
 clear hc hk hB h200
 go_enter Tryz.func161,Tryz.ntmps161
 go_wp2_with fail
 refine (insH_any a2 b off hn c2 hn cs x A C _ HC.out Zbt Za).mono ?_
 rintro r X ⟨v3,rfl,hown,hbX⟩
 obtain ⟨a4,c4,rfl⟩:=own_slice hown
 have hlen:=HC.out.len
 rw [List.take_of_length_le Za,List.drop_eq_nil_of_le Za,List.append_nil] at hown
 have HO:=hid hown
 have RX:=hid (RK.out.below hbX RK.out.lt)
 have BX:=hid ((below_alloc w (.cells #[.int .i64 x.ver,.bool x.gone,.string x.ob.kind,.string x.ob.name,.int .i64 x.ob.ver,.int .i64 x.ob.born,.string x.ob.text,.bool x.ob.ending,.slice A x.ob.hn C] 120)).trans (hbX.mono Zd))
 have zX:K<X.1.size:=RX.out.lt
 clear k0 k1 k2 k3 k4 kf hown hbX
 have k0:=RX.out.cell 0 Ze
 have k1:=RX.out.cell 1 Ze
 have k2:=RX.out.cell 2 Ze
 have k3:=RX.out.cell 3 Ze
 have k4:=RX.out.cell 4 Ze
 have kf:=RX.out.free
 simp only [vec,List.getD_cons_zero,List.getD_cons_succ] at k0 k1 k2 k3 k4
 go_wp2
 refine bodyPost_end (results_none rfl _ _ _) rfl ⟨rfl,a4,c4,?_,RX.out.vset Za (set5_3 _ _ _ _ _ _),(FrP.of_below BX.out).trans (FrP.setCell (P:=fun q=>q=K) (FrP.refl _ _) rfl _)⟩
 exact ownsRow_fr (own_base HO.out Zd) (P:=fun q=>q=K) (FrP.setCell (P:=fun q=>q=K) (FrP.refl _ _) rfl _) (fun g hg e=>by have:=(HO.out.lt g hg).1;simp at this;omega)
theorem tell_full (K:Nat) (x:Ch) (A:Option Addr) (C:Nat) (v0 v1 v2 v4:Value) (a2:Option Addr) (b off hn c2:Nat) (cs:List Value) (f0:Int) (w:World) (hk:RowF w K 5 (vec [v0,v1,v2,.slice a2 hn c2,v4])) (hc:RowC w 9 a2 b off hn c2 cs) (hl:(hn:Int)≤100000) (h200:hn=200) (hf0:cs[0]? = some (.int .i64 f0)) (hKb:¬K=b) :
  Calls Tryz.prog 161 #[.pointer (some ⟨K,0,none⟩),.agg #[.int .i64 x.ver,.bool x.gone,.string x.ob.kind,.string x.ob.name,.int .i64 x.ob.ver,.int .i64 x.ob.born,.string x.ob.text,.bool x.ob.ending,.slice A x.ob.hn C]] w fun e w'=>e=.returned (.tuple #[])∧∃ a4 c4,w'.ownsRow w.1.size 120 9 (.slice a4 (hn-1+1) c4) (hn-1+1) (cs.drop 9 ++ [.int .i64 x.ver,.bool x.gone,.string x.ob.kind,.string x.ob.name,.int .i64 x.ob.ver,.int .i64 x.ob.born,.string x.ob.text,.bool x.ob.ending,.slice A x.ob.hn C])∧RowF w' K 5 (vec [v0,.int .i64 f0,v2,.slice a4 (hn-1+1) c4,v4])∧FrP (fun q=>q=K) w w':=by
 have hB:=below_alloc w (.cells #[.int .i64 x.ver,.bool x.gone,.string x.ob.kind,.string x.ob.name,.int .i64 x.ob.ver,.int .i64 x.ob.born,.string x.ob.text,.bool x.ob.ending,.slice A x.ob.hn C] 120)
 have HC:=hid (hc.grow hB)
 have zK:=hk.lt
 have RK:=hid (hk.below hB hk.lt)
 subst h200
 obtain ⟨rfl,hcap,zb,hcs⟩:a2=some ⟨b,off,none⟩∧200≤c2∧b<w.1.size∧∀ t u,cs[t]? = some u→w.cell? ⟨b,off+t,none⟩=some u:=by
  rcases hc.src with ⟨_,h,_⟩|h
  ·omega
  ·exact h
 have hz:b<(w.alloc (.cells #[.int .i64 x.ver,.bool x.gone,.string x.ob.kind,.string x.ob.name,.int .i64 x.ob.ver,.int .i64 x.ob.born,.string x.ob.text,.bool x.ob.ending,.slice A x.ob.hn C] 120)).1.size:=Zc
 have f1:=hcs 0 _ hf0
 rw [Nat.add_zero] at f1
 have k0:=hk.cell 0 Ze
 have k1:=hk.cell 1 Ze
 have k2:=hk.cell 2 Ze
 have k3:=hk.cell 3 Ze
 have k4:=hk.cell 4 Ze
 have kf:=hk.free
 simp only [vec,List.getD_cons_zero,List.getD_cons_succ] at k0 k1 k2 k3 k4
 have HCS:=hid hcs
 have RK0:=hid hk
 clear hc hk hB hcs hf0
 go_enter Tryz.func161,Tryz.ntmps161
 go_wp2_with fail
 have W2z:w.1.size≤((w.setCell ⟨K,1,none⟩ (.int .i64 f0)).alloc (.cells #[.int .i64 x.ver,.bool x.gone,.string x.ob.kind,.string x.ob.name,.int .i64 x.ob.ver,.int .i64 x.ob.born,.string x.ob.text,.bool x.ob.ending,.slice A x.ob.hn C] 120)).1.size:=Zd
 have F2:FrP (fun q=>q=K) w ((w.setCell ⟨K,1,none⟩ (.int .i64 f0)).alloc (.cells #[.int .i64 x.ver,.bool x.gone,.string x.ob.kind,.string x.ob.name,.int .i64 x.ob.ver,.int .i64 x.ob.born,.string x.ob.text,.bool x.ob.ending,.slice A x.ob.hn C] 120)):=(FrP.setCell (P:=fun q=>q=K) (FrP.refl _ _) rfl _).trans (FrP.of_below Zbu)
 have RC2:RowC ((w.setCell ⟨K,1,none⟩ (.int .i64 f0)).alloc (.cells #[.int .i64 x.ver,.bool x.gone,.string x.ob.kind,.string x.ob.name,.int .i64 x.ob.ver,.int .i64 x.ob.born,.string x.ob.text,.bool x.ob.ending,.slice A x.ob.hn C] 120)) 9 (some ⟨b,off+9,none⟩) b (off+9) 199 (c2-1) (cs.drop 9):=
  ⟨by rw [List.length_drop,HC.out.len],fun u hu=>HC.out.one u (List.mem_of_mem_drop hu),Or.inr ⟨rfl,Za,Za,fun t u hu=>by
   rw [List.getElem?_drop] at hu
   rw [Nat.add_assoc,F2.cell (p:=⟨b,off+(9+t),none⟩) zb (fun e=>hKb e.symm)]
   exact HCS.out _ u hu⟩⟩
 have RK2:=hid (show RowF ((w.setCell ⟨K,1,none⟩ (.int .i64 f0)).alloc (.cells #[.int .i64 x.ver,.bool x.gone,.string x.ob.kind,.string x.ob.name,.int .i64 x.ob.ver,.int .i64 x.ob.born,.string x.ob.text,.bool x.ob.ending,.slice A x.ob.hn C] 120)) K 5 (vec [v0,.int .i64 f0,v2,.slice (some ⟨b,off,none⟩) 200 c2,v4]) from (RK0.out.vset Za (set5_1 _ _ _ _ _ _)).below Zbu (by simpa using zK))
 refine (insH_any (some ⟨b,off+9,none⟩) b (off+9) 199 (c2-1) 199 (cs.drop 9) x A C _ RC2 Zbt Za).mono ?_
 rintro r X ⟨v3,rfl,hown,hbX⟩
 obtain ⟨a4,c4,rfl⟩:=own_slice hown
 have hlen:=RC2.len
 rw [show (cs.drop 9).take (199*9)=cs.drop 9 from List.take_of_length_le Za,show (cs.drop 9).drop (199*9)=[] from List.drop_eq_nil_of_le Za,List.append_nil] at hown
 have HO:=hid hown
 have RX:=hid (RK2.out.below hbX RK2.out.lt)
 have BX:=hid (F2.trans (FrP.of_below hbX))
 have zX:K<X.1.size:=RX.out.lt
 clear k0 k1 k2 k3 k4 kf hown hbX RC2 F2 f1 hlen
 have k0:=RX.out.cell 0 Ze
 have k1:=RX.out.cell 1 Ze
 have k2:=RX.out.cell 2 Ze
 have k3:=RX.out.cell 3 Ze
 have k4:=RX.out.cell 4 Ze
 have kf:=RX.out.free
 simp only [vec,List.getD_cons_zero,List.getD_cons_succ] at k0 k1 k2 k3 k4
 go_wp2
 refine bodyPost_end (results_none rfl _ _ _) rfl ⟨rfl,a4,c4,?_,RX.out.vset Za (set5_3 _ _ _ _ _ _),BX.out.trans (FrP.setCell (P:=fun q=>q=K) (FrP.refl _ _) rfl _)⟩
 exact ownsRow_fr (own_base HO.out W2z) (P:=fun q=>q=K) (FrP.setCell (P:=fun q=>q=K) (FrP.refl _ _) rfl _) (fun g hg e=>by have:=(HO.out.lt g hg).1;simp at this;omega)
def puReg5G (D K:Nat) (_y:Wr) (p:Nat) (_fo:Bool) (_k0 _k1 _k3 _k4:Value) (a1:Option Addr) (_b _off n c1:Nat) (cs:List Value) (W:World) (i:Nat) (v:Value) (X:World):Prop:=
 match i with
 | 0=>v=.pointer (some ⟨D,0,none⟩)
 | 1=>v=.pointer (some ⟨D,0,none⟩)
 | 2=>v=.pointer (some ⟨D,0,none⟩)
 | 3=>v=.pointer (some ⟨K,0,none⟩)
 | 4=>v=.pointer (some ⟨D,0,none⟩)
 | 5=>v=.pointer (some ⟨D,0,none⟩)
 | 6=>v=.pointer (some ⟨D,0,none⟩)
 | 7=>v=.pointer (some ⟨K,0,none⟩)
 | 8=>v=.pointer (some ⟨K,0,none⟩)
 | 9=>v=.pointer (some ⟨K,2,none⟩)
 | 10=>v=.slice a1 n c1
 | 11=>v=.pointer (some ⟨D,0,none⟩)
 | 12=>v=.pointer (some ⟨D,0,none⟩)
 | 13=>v=.pointer (some ⟨D,7,none⟩)
 | 14=>v=.int .i64 (p:Nat)
 | 15=>X.ownsRow W.1.size 118 7 v (n-1) (cs.take (p*7) ++ cs.drop ((p+1)*7))
 | 16=>v=.pointer (some ⟨K,0,none⟩)
 | 17=>v=.pointer (some ⟨K,2,none⟩)
 | _=>True
theorem apP241 {P:Prop} (h:P:=by
  have h:=hKK (.pointer (some ⟨D,0,none⟩)) X rfl Zbv
  refine wpOp_of rfl rfl ?_
  clear hKK hg
  go_simp
  simpa [updT] using h):P:=h
theorem apP242 {P:Prop} (h:P:=by
  have e2:t 2=.pointer (some ⟨D,0,none⟩):=hg 2 (Wt rfl)
  have l0:=(hb.cell (p:=⟨D,0,none⟩) hD).trans hd.c0
  have zl:=Nat.lt_of_lt_of_le hD hb.size
  have h:=hKK (.pointer (some ⟨K,0,none⟩)) X rfl Zbv
  refine wpOp_of rfl rfl ?_
  clear hKK hg
  go_simp
  simpa [updT,e2] using h):P:=h
theorem apP243 {P:Prop} (h:P:=by
  have e0:t 0=.pointer (some ⟨D,0,none⟩):=hg 0 (Wt rfl)
  have h:=hKK (.pointer (some ⟨D,0,none⟩)) X rfl Zbv
  refine wpOp_of rfl rfl ?_
  clear hKK hg
  go_simp
  simpa [updT,e0] using h):P:=h
theorem apP244 {P:Prop} (h:P:=by
  have e1:t 1=.pointer (some ⟨D,0,none⟩):=hg 1 (Wt rfl)
  have h:=hKK (.pointer (some ⟨D,0,none⟩)) X rfl Zbv
  refine wpOp_of rfl rfl ?_
  clear hKK hg
  go_simp
  simpa [updT,e1] using h):P:=h
theorem apP245 {P:Prop} (h:P:=by
  have e9:t 9=.pointer (some ⟨K,2,none⟩):=hg 9 (Wt rfl)
  have l0:=(hb.cell (p:=⟨K,2,none⟩) hk.lt).trans (show W.cell? ⟨K,2,none⟩=some (.slice a1 n c1) from hk.cell 2 Ze)
  have zl:=Nat.lt_of_lt_of_le hk.lt hb.size
  have h:=hKK (.slice a1 n c1) X rfl Zbv
  refine wpOp_of rfl rfl ?_
  clear hKK hg
  go_simp
  simpa [updT,e9] using h):P:=h
theorem apP246 {P:Prop} (h:P:=by
  have e6:t 6=.pointer (some ⟨D,0,none⟩):=hg 6 (Wt rfl)
  have l0:=(hb.cell (p:=⟨D,0,none⟩) hD).trans hd.c0
  have zl:=Nat.lt_of_lt_of_le hD hb.size
  have h:=hKK (.pointer (some ⟨K,0,none⟩)) X rfl Zbv
  refine wpOp_of rfl rfl ?_
  clear hKK hg
  go_simp
  simpa [updT,e6] using h):P:=h
theorem apP247 {P:Prop} (h:P:=by
  have e13:t 13=.pointer (some ⟨D,7,none⟩):=hg 13 (Wt rfl)
  have l0:=(hb.cell (p:=⟨D,7,none⟩) hD).trans hd.c7
  have zl:=Nat.lt_of_lt_of_le hD hb.size
  have h:=hKK (.int .i64 (p:Nat)) X rfl Zbv
  refine wpOp_of rfl rfl ?_
  clear hKK hg
  go_simp
  simpa [updT,e13] using h):P:=h
theorem apP248 {P:Prop} (h:P:=by
  have e11:t 11=.pointer (some ⟨D,0,none⟩):=hg 11 (Wt rfl)
  have h:=hKK (.pointer (some ⟨D,0,none⟩)) X rfl Zbv
  refine wpOp_of rfl rfl ?_
  clear hKK hg
  go_simp
  simpa [updT,e11] using h):P:=h
theorem apP249 {P:Prop} (h:P:=by
  have e12:t 12=.pointer (some ⟨D,0,none⟩):=hg 12 (Wt rfl)
  have h:=hKK (.pointer (some ⟨D,7,none⟩)) X rfl Zbv
  refine wpOp_of rfl rfl ?_
  clear hKK hg
  go_simp
  simpa [updT,e12] using h):P:=h
theorem apP2411 {P:Prop} (h:P:=by
  have e4:t 4=.pointer (some ⟨D,0,none⟩):=hg 4 (Wt rfl)
  have h:=hKK (.pointer (some ⟨D,0,none⟩)) X rfl Zbv
  refine wpOp_of rfl rfl ?_
  clear hKK hg
  go_simp
  simpa [updT,e4] using h):P:=h
theorem apP2412 {P:Prop} (h:P:=by
  have e5:t 5=.pointer (some ⟨D,0,none⟩):=hg 5 (Wt rfl)
  have h:=hKK (.pointer (some ⟨D,0,none⟩)) X rfl Zbv
  refine wpOp_of rfl rfl ?_
  clear hKK hg
  go_simp
  simpa [updT,e5] using h):P:=h
theorem apP2413 {P:Prop} (h:P:=by
  have e7:t 7=.pointer (some ⟨K,0,none⟩):=hg 7 (Wt rfl)
  have h:=hKK (.pointer (some ⟨K,0,none⟩)) X rfl Zbv
  refine wpOp_of rfl rfl ?_
  clear hKK hg
  go_simp
  simpa [updT,e7] using h):P:=h
theorem apP2414 {P:Prop} (h:P:=by
  have e8:t 8=.pointer (some ⟨K,0,none⟩):=hg 8 (Wt rfl)
  have h:=hKK (.pointer (some ⟨K,2,none⟩)) X rfl Zbv
  refine wpOp_of rfl rfl ?_
  clear hKK hg
  go_simp
  simpa [updT,e8] using h):P:=h
theorem apP2415 {P:Prop} (h:P:=by
  have e3:t 3=.pointer (some ⟨K,0,none⟩):=hg 3 (Wt rfl)
  have h:=hKK (.pointer (some ⟨K,0,none⟩)) X rfl Zbv
  refine wpOp_of rfl rfl ?_
  clear hKK hg
  go_simp
  simpa [updT,e3] using h):P:=h
theorem puReg5 (p1 p2 p3 p4 p5 p6 p7 p8 p9 p10 p11 p12 p13 p14 p15 p16 p17 p18 p19 p20 p21 p22 p23 p24 p25 p26 p27 p28 p29 p48 p49 p50 p51 p52 p53 p54 p55 p56 p57 p58 p59 p60 p61 p62 p63 p64 p65 p66 p67 p68 p69 p70 p71 p72 p73 p74 p75 p76 p77 p78 p79:Value) (t0:Nat→Value) (D K:Nat) (y:Wr) (p:Nat) (fo:Bool) (k0 k1 k3 k4:Value) (a1:Option Addr) (b off n c1:Nat) (cs:List Value) (W:World) (hD:D<W.1.size) (hd:DeskAt W D K y (p:Nat) fo) (hk:RowF W K 5 (vec [k0,k1,.slice a1 n c1,k3,k4])) (hc:RowC W 7 a1 b off n c1 cs) (hp:p<n) (hl:(n:Int)≤100000) (Q:Exit→Act→World→Prop) (hQ:∀ (t:Nat→Value) (_v3:Value) X,(∃ a4 c4,X.ownsRow W.1.size 118 7 (.slice a4 (n-1) c4) (n-1) (cs.take (p*7) ++ cs.drop ((p+1)*7))∧RowF X K 5 (vec [k0,k1,.slice a4 (n-1) c4,k3,k4])∧FrP (fun q=>q=K) W X)→Q .normal ⟨#[.pointer (some ⟨D,0,none⟩),p1,p2,p3,p4,p5,p6,p7,p8,p9,p10,p11,p12,p13,p14,p15,p16,p17,p18,p19,p20,p21,p22,p23,p24,p25,p26,p27,p28,p29,t 0,t 1,t 2,t 3,t 4,t 5,t 6,t 7,t 8,t 9,t 10,t 11,t 12,t 13,t 14,t 15,t 16,t 17,p48,p49,p50,p51,p52,p53,p54,p55,p56,p57,p58,p59,p60,p61,p62,p63,p64,p65,p66,p67,p68,p69,p70,p71,p72,p73,p74,p75,p76,p77,p78,p79],[]⟩ X) :
  Code.wp Tryz.prog (Code.region 5 #[⟨some 30,.move (.tmp 0),196, "l2_book_write.go:239",#[],none⟩,⟨some 31,.nilCheck (.tmp 30),0, "l2_book_write.go:239",#[⟨0,.data⟩],none⟩,⟨some 32,.fieldAddr 141 (.tmp 31) 0,0, "l2_book_write.go:239",#[⟨1,.data⟩],none⟩,⟨some 33,.load 88 (.tmp 32),88, "l2_book_write.go:239",#[⟨2,.data⟩],none⟩,⟨some 34,.move (.tmp 0),196, "l2_book_write.go:239",#[],none⟩,⟨some 35,.nilCheck (.tmp 34),0, "l2_book_write.go:239",#[⟨4,.data⟩],none⟩,⟨some 36,.fieldAddr 141 (.tmp 35) 0,0, "l2_book_write.go:239",#[⟨5,.data⟩],none⟩,⟨some 37,.load 88 (.tmp 36),88, "l2_book_write.go:239",#[⟨6,.data⟩],none⟩,⟨some 38,.nilCheck (.tmp 37),0, "l2_book_write.go:239",#[⟨7,.data⟩],none⟩,⟨some 39,.fieldAddr 35 (.tmp 38) 2,0, "l2_book_write.go:239",#[⟨8,.data⟩],none⟩,⟨some 40,.load 31 (.tmp 39),31, "l2_book_write.go:239",#[⟨9,.data⟩],none⟩,⟨some 41,.move (.tmp 0),196, "l2_book_write.go:239",#[],none⟩,⟨some 42,.nilCheck (.tmp 41),0, "l2_book_write.go:239",#[⟨11,.data⟩],none⟩,⟨some 43,.fieldAddr 141 (.tmp 42) 2,0, "l2_book_write.go:239",#[⟨12,.data⟩],none⟩,⟨some 44,.load 3 (.tmp 43),3, "l2_book_write.go:239",#[⟨13,.data⟩],none⟩,⟨some 45,.call ⟨.value (.func 159),#[.tmp 40,.tmp 44],#[31,3]⟩,31, "l2_book_write.go:239",#[⟨10,.data⟩,⟨14,.data⟩],none⟩,⟨some 46,.nilCheck (.tmp 33),0, "l2_book_write.go:239",#[⟨3,.data⟩,⟨0,.phase⟩,⟨1,.phase⟩,⟨2,.phase⟩,⟨3,.phase⟩,⟨4,.phase⟩,⟨5,.phase⟩,⟨6,.phase⟩,⟨7,.phase⟩,⟨8,.phase⟩,⟨9,.phase⟩,⟨10,.phase⟩,⟨11,.phase⟩,⟨12,.phase⟩,⟨13,.phase⟩,⟨14,.phase⟩,⟨15,.phase⟩],none⟩,⟨some 47,.fieldAddr 35 (.tmp 46) 2,0, "l2_book_write.go:239",#[⟨16,.data⟩,⟨0,.phase⟩,⟨1,.phase⟩,⟨2,.phase⟩,⟨3,.phase⟩,⟨4,.phase⟩,⟨5,.phase⟩,⟨6,.phase⟩,⟨7,.phase⟩,⟨8,.phase⟩,⟨9,.phase⟩,⟨10,.phase⟩,⟨11,.phase⟩,⟨12,.phase⟩,⟨13,.phase⟩,⟨14,.phase⟩,⟨15,.phase⟩],none⟩,⟨none,.store 31 (.tmp 47) (.tmp 45),0, "l2_book_write.go:239",#[⟨17,.data⟩,⟨15,.data⟩,⟨15,.chain⟩,⟨0,.phase⟩,⟨1,.phase⟩,⟨2,.phase⟩,⟨3,.phase⟩,⟨4,.phase⟩,⟨5,.phase⟩,⟨6,.phase⟩,⟨7,.phase⟩,⟨8,.phase⟩,⟨9,.phase⟩,⟨10,.phase⟩,⟨11,.phase⟩,⟨12,.phase⟩,⟨13,.phase⟩,⟨14,.phase⟩,⟨15,.phase⟩],none⟩] true) Q ⟨#[.pointer (some ⟨D,0,none⟩),p1,p2,p3,p4,p5,p6,p7,p8,p9,p10,p11,p12,p13,p14,p15,p16,p17,p18,p19,p20,p21,p22,p23,p24,p25,p26,p27,p28,p29,t0 0,t0 1,t0 2,t0 3,t0 4,t0 5,t0 6,t0 7,t0 8,t0 9,t0 10,t0 11,t0 12,t0 13,t0 14,t0 15,t0 16,t0 17,p48,p49,p50,p51,p52,p53,p54,p55,p56,p57,p58,p59,p60,p61,p62,p63,p64,p65,p66,p67,p68,p69,p70,p71,p72,p73,p74,p75,p76,p77,p78,p79],[]⟩ W:=by
 refine regionJ Zf 18 (fun t:Nat→Value=>#[.pointer (some ⟨D,0,none⟩),p1,p2,p3,p4,p5,p6,p7,p8,p9,p10,p11,p12,p13,p14,p15,p16,p17,p18,p19,p20,p21,p22,p23,p24,p25,p26,p27,p28,p29,t 0,t 1,t 2,t 3,t 4,t 5,t 6,t 7,t 8,t 9,t 10,t 11,t 12,t 13,t 14,t 15,t 16,t 17,p48,p49,p50,p51,p52,p53,p54,p55,p56,p57,p58,p59,p60,p61,p62,p63,p64,p65,p66,p67,p68,p69,p70,p71,p72,p73,p74,p75,p76,p77,p78,p79]) t0 (puReg5G D K y p fo k0 k1 k3 k4 a1 b off n c1 cs W) (fun a X=>∃ (t:Nat→Value) (v3:Value),a=⟨#[.pointer (some ⟨D,0,none⟩),p1,p2,p3,p4,p5,p6,p7,p8,p9,p10,p11,p12,p13,p14,p15,p16,p17,p18,p19,p20,p21,p22,p23,p24,p25,p26,p27,p28,p29,t 0,t 1,t 2,t 3,t 4,t 5,t 6,t 7,t 8,t 9,t 10,t 11,t 12,t 13,t 14,t 15,t 16,t 17,p48,p49,p50,p51,p52,p53,p54,p55,p56,p57,p58,p59,p60,p61,p62,p63,p64,p65,p66,p67,p68,p69,p70,p71,p72,p73,p74,p75,p76,p77,p78,p79],[]⟩∧(∃ a4 c4,X.ownsRow W.1.size 118 7 (.slice a4 (n-1) c4) (n-1) (cs.take (p*7) ++ cs.drop ((p+1)*7))∧RowF X K 5 (vec [k0,k1,.slice a4 (n-1) c4,k3,k4])∧FrP (fun q=>q=K) W X)) Zf Zf Zf ?_ rfl ?_ ?_ ?_
 ·intro i v X Y hi h hb
  rcases (show i=0∨i=1∨i=2∨i=3∨i=4∨i=5∨i=6∨i=7∨i=8∨i=9∨i=10∨i=11∨i=12∨i=13∨i=14∨i=15∨i=16∨i=17 by omega) with rfl|rfl|rfl|rfl|rfl|rfl|rfl|rfl|rfl|rfl|rfl|rfl|rfl|rfl|rfl|rfl|rfl|rfl
  ·exact h
  ·exact h
  ·exact h
  ·exact h
  ·exact h
  ·exact h
  ·exact h
  ·exact h
  ·exact h
  ·exact h
  ·exact h
  ·exact h
  ·exact h
  ·exact h
  ·exact h
  ·exact own_grow h hb
  ·exact h
  ·exact h
 ·intro i hi t X KK hb hg hKK
  rcases (show i=0∨i=1∨i=2∨i=3∨i=4∨i=5∨i=6∨i=7∨i=8∨i=9∨i=10∨i=11∨i=12∨i=13∨i=14∨i=15∨i=16∨i=17 by omega) with rfl|rfl|rfl|rfl|rfl|rfl|rfl|rfl|rfl|rfl|rfl|rfl|rfl|rfl|rfl|rfl|rfl|rfl
  ·exact apP241
  ·exact apP243
  ·exact apP244
  ·exact apP242
  ·exact apP241
  ·exact apP2411
  ·exact apP2412
  ·exact apP246
  ·exact apP2413
  ·exact apP2414
  ·exact apP245
  ·exact apP241
  ·exact apP248
  ·exact apP249
  ·exact apP247
  ·have e10:t 10=.slice a1 n c1:=hg 10 (Wt rfl)
   have e14:t 14=.int .i64 (p:Nat):=hg 14 (Wt rfl)
   refine wpOp_of rfl rfl ?_
   have HK:=hid hKK
   have HST:=hid (hc.grow hb)
   clear hKK hg
   go_simp
   go_at_call 159
   refine (remO_any a1 b off n c1 p cs X HST.out hp Za).mono ?_
   rintro r Y ⟨v,rfl,hown,hbY⟩
   have h:=HK.out v Y (own_base hown hb.size) hbY
   simpa [updT,e10,e14] using h
  ·exact apP2415
  ·have e16:t 16=.pointer (some ⟨K,0,none⟩):=hg 16 (Wt rfl)
   have h:=hKK (.pointer (some ⟨K,2,none⟩)) X rfl Zbv
   refine wpOp_of rfl rfl ?_
   clear hKK hg
   go_simp
   simpa [updT,e16] using h
 ·intro t X KK hb hg hKK
  have e17:t 17=.pointer (some ⟨K,2,none⟩):=hg 17 Za
  have hown:X.ownsRow W.1.size 118 7 (t 15) (n-1) (cs.take (p*7) ++ cs.drop ((p+1)*7)):=hg 15 Za
  obtain ⟨a4,c4,e8⟩:=own_slice hown
  rw [e8] at hown
  have hr:=hk.below hb hk.lt
  have l2:=hr.cell 2 Zb
  have lf:=hr.free
  simp only [vec,List.getD_cons_zero,List.getD_cons_succ] at l2
  have zl:K<X.1.size:=hr.lt
  have zK:=hk.lt
  have h:=hKK ⟨#[.pointer (some ⟨D,0,none⟩),p1,p2,p3,p4,p5,p6,p7,p8,p9,p10,p11,p12,p13,p14,p15,p16,p17,p18,p19,p20,p21,p22,p23,p24,p25,p26,p27,p28,p29,t 0,t 1,t 2,t 3,t 4,t 5,t 6,t 7,t 8,t 9,t 10,t 11,t 12,t 13,t 14,t 15,t 16,t 17,p48,p49,p50,p51,p52,p53,p54,p55,p56,p57,p58,p59,p60,p61,p62,p63,p64,p65,p66,p67,p68,p69,p70,p71,p72,p73,p74,p75,p76,p77,p78,p79],[]⟩ (X.setCell ⟨K,2,none⟩ (.slice a4 (n-1) c4)) ⟨t,.tuple #[],rfl,a4,c4,ownsRow_fr hown (FrP.setCell (P:=fun q=>q=K) (FrP.refl _ _) rfl _) (fun g hg' e=>by have:=(hown.lt g hg').1;omega),hr.vset Za (set_v2 _ _ _ _ _ _),(FrP.of_below hb).trans (FrP.setCell (P:=fun q=>q=K) (FrP.refl _ _) rfl _)⟩
  refine wpOp_of rfl rfl ?_
  clear hKK hg hr
  go_simp
  simpa [updT,e17,e8] using h
 ·rintro a X ⟨t,v3,rfl,hp⟩
  exact hQ t v3 X hp
def puReg7G (D K:Nat) (_y:Wr) (p:Nat) (_fo:Bool) (_k0 _k1 _k3 _k4:Value) (a1:Option Addr) (_b _off n c1:Nat) (cs:List Value) (x:Ob) (A:Option Addr) (C _Bo:Nat) (W:World) (i:Nat) (v:Value) (X:World):Prop:=
 match i with
 | 0=>v=.pointer (some ⟨D,0,none⟩)
 | 1=>v=.pointer (some ⟨D,0,none⟩)
 | 2=>v=.pointer (some ⟨D,0,none⟩)
 | 3=>v=.pointer (some ⟨K,0,none⟩)
 | 4=>v=.pointer (some ⟨D,0,none⟩)
 | 5=>v=.pointer (some ⟨D,0,none⟩)
 | 6=>v=.pointer (some ⟨D,0,none⟩)
 | 7=>v=.pointer (some ⟨K,0,none⟩)
 | 8=>v=.pointer (some ⟨K,0,none⟩)
 | 9=>v=.pointer (some ⟨K,2,none⟩)
 | 10=>v=.slice a1 n c1
 | 11=>v=.pointer (some ⟨D,0,none⟩)
 | 12=>v=.pointer (some ⟨D,0,none⟩)
 | 13=>v=.pointer (some ⟨D,7,none⟩)
 | 14=>v=.int .i64 (p:Nat)
 | 15=>v=.agg #[.string x.kind,.string x.name,.int .i64 x.ver,.int .i64 x.born,.string x.text,.bool x.ending,.slice A x.hn C]
 | 16=>X.ownsRow W.1.size 118 7 v (n+1) (cs.take (p*7) ++ [.string x.kind,.string x.name,.int .i64 x.ver,.int .i64 x.born,.string x.text,.bool x.ending,.slice A x.hn C] ++ cs.drop (p*7))
 | 17=>v=.pointer (some ⟨K,0,none⟩)
 | 18=>v=.pointer (some ⟨K,2,none⟩)
 | _=>True
theorem apP240 {P:Prop} (h:P:=by
  have l0:=(hb.cell (p:=⟨Bo,0,none⟩) hx.lt).trans (show W.cell? ⟨Bo,0,none⟩=some (.string x.kind) from hx.cell 0 Ze)
  have l1:=(hb.cell (p:=⟨Bo,1,none⟩) hx.lt).trans (show W.cell? ⟨Bo,1,none⟩=some (.string x.name) from hx.cell 1 Ze)
  have l2:=(hb.cell (p:=⟨Bo,2,none⟩) hx.lt).trans (show W.cell? ⟨Bo,2,none⟩=some (.int .i64 x.ver) from hx.cell 2 Ze)
  have l3:=(hb.cell (p:=⟨Bo,3,none⟩) hx.lt).trans (show W.cell? ⟨Bo,3,none⟩=some (.int .i64 x.born) from hx.cell 3 Ze)
  have l4:=(hb.cell (p:=⟨Bo,4,none⟩) hx.lt).trans (show W.cell? ⟨Bo,4,none⟩=some (.string x.text) from hx.cell 4 Ze)
  have l5:=(hb.cell (p:=⟨Bo,5,none⟩) hx.lt).trans (show W.cell? ⟨Bo,5,none⟩=some (.bool x.ending) from hx.cell 5 Ze)
  have l6:=(hb.cell (p:=⟨Bo,6,none⟩) hx.lt).trans (show W.cell? ⟨Bo,6,none⟩=some (.slice A x.hn C) from hx.cell 6 Ze)
  have zl:=Nat.lt_of_lt_of_le hx.lt hb.size
  have h:=hKK (.agg #[.string x.kind,.string x.name,.int .i64 x.ver,.int .i64 x.born,.string x.text,.bool x.ending,.slice A x.hn C]) X rfl Zbv
  refine wpOp_of rfl rfl ?_
  clear hKK hg
  go_simp
  simpa [updT] using h):P:=h
theorem puReg7 (p1 p2 p4 p5 p6 p7 p8 p9 p10 p11 p12 p13 p14 p15 p16 p17 p18 p19 p20 p21 p22 p23 p24 p25 p26 p27 p28 p29 p30 p31 p32 p33 p34 p35 p36 p37 p38 p39 p40 p41 p42 p43 p44 p45 p46 p47 p48 p49 p69 p70 p71 p72 p73 p74 p75 p76 p77 p78 p79:Value) (t0:Nat→Value) (D K:Nat) (y:Wr) (p:Nat) (fo:Bool) (k0 k1 k3 k4:Value) (a1:Option Addr) (b off n c1:Nat) (cs:List Value) (x:Ob) (A:Option Addr) (C Bo:Nat) (W:World) (hD:D<W.1.size) (hd:DeskAt W D K y (p:Nat) fo) (hk:RowF W K 5 (vec [k0,k1,.slice a1 n c1,k3,k4])) (hc:RowC W 7 a1 b off n c1 cs) (hp:p≤n) (hl:(n:Int)≤100000) (hx:RowF W Bo 7 (vec [.string x.kind,.string x.name,.int .i64 x.ver,.int .i64 x.born,.string x.text,.bool x.ending,.slice A x.hn C])) (Q:Exit→Act→World→Prop) (hQ:∀ (t:Nat→Value) (_v3:Value) X,(∃ a4 c4,X.ownsRow W.1.size 118 7 (.slice a4 (n+1) c4) (n+1) (cs.take (p*7) ++ [.string x.kind,.string x.name,.int .i64 x.ver,.int .i64 x.born,.string x.text,.bool x.ending,.slice A x.hn C] ++ cs.drop (p*7))∧RowF X K 5 (vec [k0,k1,.slice a4 (n+1) c4,k3,k4])∧FrP (fun q=>q=K) W X)→Q .normal ⟨#[.pointer (some ⟨D,0,none⟩),p1,p2,.pointer (some ⟨Bo,0,none⟩),p4,p5,p6,p7,p8,p9,p10,p11,p12,p13,p14,p15,p16,p17,p18,p19,p20,p21,p22,p23,p24,p25,p26,p27,p28,p29,p30,p31,p32,p33,p34,p35,p36,p37,p38,p39,p40,p41,p42,p43,p44,p45,p46,p47,p48,p49,t 0,t 1,t 2,t 3,t 4,t 5,t 6,t 7,t 8,t 9,t 10,t 11,t 12,t 13,t 14,t 15,t 16,t 17,t 18,p69,p70,p71,p72,p73,p74,p75,p76,p77,p78,p79],[]⟩ X) :
  Code.wp Tryz.prog (Code.region 7 #[⟨some 50,.move (.tmp 0),196, "l2_book_write.go:242",#[],none⟩,⟨some 51,.nilCheck (.tmp 50),0, "l2_book_write.go:242",#[⟨0,.data⟩],none⟩,⟨some 52,.fieldAddr 141 (.tmp 51) 0,0, "l2_book_write.go:242",#[⟨1,.data⟩],none⟩,⟨some 53,.load 88 (.tmp 52),88, "l2_book_write.go:242",#[⟨2,.data⟩],none⟩,⟨some 54,.move (.tmp 0),196, "l2_book_write.go:242",#[],none⟩,⟨some 55,.nilCheck (.tmp 54),0, "l2_book_write.go:242",#[⟨4,.data⟩],none⟩,⟨some 56,.fieldAddr 141 (.tmp 55) 0,0, "l2_book_write.go:242",#[⟨5,.data⟩],none⟩,⟨some 57,.load 88 (.tmp 56),88, "l2_book_write.go:242",#[⟨6,.data⟩],none⟩,⟨some 58,.nilCheck (.tmp 57),0, "l2_book_write.go:242",#[⟨7,.data⟩],none⟩,⟨some 59,.fieldAddr 35 (.tmp 58) 2,0, "l2_book_write.go:242",#[⟨8,.data⟩],none⟩,⟨some 60,.load 31 (.tmp 59),31, "l2_book_write.go:242",#[⟨9,.data⟩],none⟩,⟨some 61,.move (.tmp 0),196, "l2_book_write.go:242",#[],none⟩,⟨some 62,.nilCheck (.tmp 61),0, "l2_book_write.go:242",#[⟨11,.data⟩],none⟩,⟨some 63,.fieldAddr 141 (.tmp 62) 2,0, "l2_book_write.go:242",#[⟨12,.data⟩],none⟩,⟨some 64,.load 3 (.tmp 63),3, "l2_book_write.go:242",#[⟨13,.data⟩],none⟩,⟨some 65,.load 118 (.tmp 3),118, "l2_book_write.go:242",#[],none⟩,⟨some 66,.call ⟨.value (.func 160),#[.tmp 60,.tmp 64,.tmp 65],#[31,3,118]⟩,31, "l2_book_write.go:242",#[⟨10,.data⟩,⟨14,.data⟩,⟨15,.data⟩],none⟩,⟨some 67,.nilCheck (.tmp 53),0, "l2_book_write.go:242",#[⟨3,.data⟩,⟨0,.phase⟩,⟨1,.phase⟩,⟨2,.phase⟩,⟨3,.phase⟩,⟨4,.phase⟩,⟨5,.phase⟩,⟨6,.phase⟩,⟨7,.phase⟩,⟨8,.phase⟩,⟨9,.phase⟩,⟨10,.phase⟩,⟨11,.phase⟩,⟨12,.phase⟩,⟨13,.phase⟩,⟨14,.phase⟩,⟨15,.phase⟩,⟨16,.phase⟩],none⟩,⟨some 68,.fieldAddr 35 (.tmp 67) 2,0, "l2_book_write.go:242",#[⟨17,.data⟩,⟨0,.phase⟩,⟨1,.phase⟩,⟨2,.phase⟩,⟨3,.phase⟩,⟨4,.phase⟩,⟨5,.phase⟩,⟨6,.phase⟩,⟨7,.phase⟩,⟨8,.phase⟩,⟨9,.phase⟩,⟨10,.phase⟩,⟨11,.phase⟩,⟨12,.phase⟩,⟨13,.phase⟩,⟨14,.phase⟩,⟨15,.phase⟩,⟨16,.phase⟩],none⟩,⟨none,.store 31 (.tmp 68) (.tmp 66),0, "l2_book_write.go:242",#[⟨18,.data⟩,⟨16,.data⟩,⟨16,.chain⟩,⟨0,.phase⟩,⟨1,.phase⟩,⟨2,.phase⟩,⟨3,.phase⟩,⟨4,.phase⟩,⟨5,.phase⟩,⟨6,.phase⟩,⟨7,.phase⟩,⟨8,.phase⟩,⟨9,.phase⟩,⟨10,.phase⟩,⟨11,.phase⟩,⟨12,.phase⟩,⟨13,.phase⟩,⟨14,.phase⟩,⟨15,.phase⟩,⟨16,.phase⟩],none⟩] true) Q ⟨#[.pointer (some ⟨D,0,none⟩),p1,p2,.pointer (some ⟨Bo,0,none⟩),p4,p5,p6,p7,p8,p9,p10,p11,p12,p13,p14,p15,p16,p17,p18,p19,p20,p21,p22,p23,p24,p25,p26,p27,p28,p29,p30,p31,p32,p33,p34,p35,p36,p37,p38,p39,p40,p41,p42,p43,p44,p45,p46,p47,p48,p49,t0 0,t0 1,t0 2,t0 3,t0 4,t0 5,t0 6,t0 7,t0 8,t0 9,t0 10,t0 11,t0 12,t0 13,t0 14,t0 15,t0 16,t0 17,t0 18,p69,p70,p71,p72,p73,p74,p75,p76,p77,p78,p79],[]⟩ W:=by
 refine regionJ Zf 19 (fun t:Nat→Value=>#[.pointer (some ⟨D,0,none⟩),p1,p2,.pointer (some ⟨Bo,0,none⟩),p4,p5,p6,p7,p8,p9,p10,p11,p12,p13,p14,p15,p16,p17,p18,p19,p20,p21,p22,p23,p24,p25,p26,p27,p28,p29,p30,p31,p32,p33,p34,p35,p36,p37,p38,p39,p40,p41,p42,p43,p44,p45,p46,p47,p48,p49,t 0,t 1,t 2,t 3,t 4,t 5,t 6,t 7,t 8,t 9,t 10,t 11,t 12,t 13,t 14,t 15,t 16,t 17,t 18,p69,p70,p71,p72,p73,p74,p75,p76,p77,p78,p79]) t0 (puReg7G D K y p fo k0 k1 k3 k4 a1 b off n c1 cs x A C Bo W) (fun a X=>∃ (t:Nat→Value) (v3:Value),a=⟨#[.pointer (some ⟨D,0,none⟩),p1,p2,.pointer (some ⟨Bo,0,none⟩),p4,p5,p6,p7,p8,p9,p10,p11,p12,p13,p14,p15,p16,p17,p18,p19,p20,p21,p22,p23,p24,p25,p26,p27,p28,p29,p30,p31,p32,p33,p34,p35,p36,p37,p38,p39,p40,p41,p42,p43,p44,p45,p46,p47,p48,p49,t 0,t 1,t 2,t 3,t 4,t 5,t 6,t 7,t 8,t 9,t 10,t 11,t 12,t 13,t 14,t 15,t 16,t 17,t 18,p69,p70,p71,p72,p73,p74,p75,p76,p77,p78,p79],[]⟩∧(∃ a4 c4,X.ownsRow W.1.size 118 7 (.slice a4 (n+1) c4) (n+1) (cs.take (p*7) ++ [.string x.kind,.string x.name,.int .i64 x.ver,.int .i64 x.born,.string x.text,.bool x.ending,.slice A x.hn C] ++ cs.drop (p*7))∧RowF X K 5 (vec [k0,k1,.slice a4 (n+1) c4,k3,k4])∧FrP (fun q=>q=K) W X)) Zf Zf Zf ?_ rfl ?_ ?_ ?_
 ·intro i v X Y hi h hb
  rcases (show i=0∨i=1∨i=2∨i=3∨i=4∨i=5∨i=6∨i=7∨i=8∨i=9∨i=10∨i=11∨i=12∨i=13∨i=14∨i=15∨i=16∨i=17∨i=18 by omega) with rfl|rfl|rfl|rfl|rfl|rfl|rfl|rfl|rfl|rfl|rfl|rfl|rfl|rfl|rfl|rfl|rfl|rfl|rfl
  ·exact h
  ·exact h
  ·exact h
  ·exact h
  ·exact h
  ·exact h
  ·exact h
  ·exact h
  ·exact h
  ·exact h
  ·exact h
  ·exact h
  ·exact h
  ·exact h
  ·exact h
  ·exact h
  ·exact own_grow h hb
  ·exact h
  ·exact h
 ·intro i hi t X KK hb hg hKK
  rcases (show i=0∨i=1∨i=2∨i=3∨i=4∨i=5∨i=6∨i=7∨i=8∨i=9∨i=10∨i=11∨i=12∨i=13∨i=14∨i=15∨i=16∨i=17∨i=18 by omega) with rfl|rfl|rfl|rfl|rfl|rfl|rfl|rfl|rfl|rfl|rfl|rfl|rfl|rfl|rfl|rfl|rfl|rfl|rfl
  ·exact apP241
  ·exact apP243
  ·exact apP244
  ·exact apP242
  ·exact apP241
  ·exact apP2411
  ·exact apP2412
  ·exact apP246
  ·exact apP2413
  ·exact apP2414
  ·exact apP245
  ·exact apP241
  ·exact apP248
  ·exact apP249
  ·exact apP247
  ·exact apP240
  ·have e10:t 10=.slice a1 n c1:=hg 10 (Wt rfl)
   have e14:t 14=.int .i64 (p:Nat):=hg 14 (Wt rfl)
   have e15:t 15=.agg #[.string x.kind,.string x.name,.int .i64 x.ver,.int .i64 x.born,.string x.text,.bool x.ending,.slice A x.hn C]:=hg 15 (Wt rfl)
   refine wpOp_of rfl rfl ?_
   have HK:=hid hKK
   have HST:=hid (hc.grow hb)
   clear hKK hg
   go_simp
   go_at_call 160
   refine (insO_any a1 b off n c1 p cs x A C X HST.out hp Za).mono ?_
   rintro r Y ⟨v,rfl,hown,hbY⟩
   have h:=HK.out v Y (own_base hown hb.size) hbY
   simpa [updT,e10,e14,e15] using h
  ·exact apP2415
  ·have e17:t 17=.pointer (some ⟨K,0,none⟩):=hg 17 (Wt rfl)
   have h:=hKK (.pointer (some ⟨K,2,none⟩)) X rfl Zbv
   refine wpOp_of rfl rfl ?_
   clear hKK hg
   go_simp
   simpa [updT,e17] using h
 ·intro t X KK hb hg hKK
  have e18:t 18=.pointer (some ⟨K,2,none⟩):=hg 18 Za
  have hown:X.ownsRow W.1.size 118 7 (t 16) (n+1) (cs.take (p*7) ++ [.string x.kind,.string x.name,.int .i64 x.ver,.int .i64 x.born,.string x.text,.bool x.ending,.slice A x.hn C] ++ cs.drop (p*7)):=hg 16 Za
  obtain ⟨a4,c4,e8⟩:=own_slice hown
  rw [e8] at hown
  have hr:=hk.below hb hk.lt
  have l2:=hr.cell 2 Zb
  have lf:=hr.free
  simp only [vec,List.getD_cons_zero,List.getD_cons_succ] at l2
  have zl:K<X.1.size:=hr.lt
  have zK:=hk.lt
  have h:=hKK ⟨#[.pointer (some ⟨D,0,none⟩),p1,p2,.pointer (some ⟨Bo,0,none⟩),p4,p5,p6,p7,p8,p9,p10,p11,p12,p13,p14,p15,p16,p17,p18,p19,p20,p21,p22,p23,p24,p25,p26,p27,p28,p29,p30,p31,p32,p33,p34,p35,p36,p37,p38,p39,p40,p41,p42,p43,p44,p45,p46,p47,p48,p49,t 0,t 1,t 2,t 3,t 4,t 5,t 6,t 7,t 8,t 9,t 10,t 11,t 12,t 13,t 14,t 15,t 16,t 17,t 18,p69,p70,p71,p72,p73,p74,p75,p76,p77,p78,p79],[]⟩ (X.setCell ⟨K,2,none⟩ (.slice a4 (n+1) c4)) ⟨t,.tuple #[],rfl,a4,c4,ownsRow_fr hown (FrP.setCell (P:=fun q=>q=K) (FrP.refl _ _) rfl _) (fun g hg' e=>by have:=(hown.lt g hg').1;omega),hr.vset Za (set_v2 _ _ _ _ _ _),(FrP.of_below hb).trans (FrP.setCell (P:=fun q=>q=K) (FrP.refl _ _) rfl _)⟩
  refine wpOp_of rfl rfl ?_
  clear hKK hg hr
  go_simp
  simpa [updT,e18,e8] using h
 ·rintro a X ⟨t,v3,rfl,hp⟩
  exact hQ t v3 X hp
def puReg8G (D K:Nat) (_y:Wr) (_p:Nat) (_fo gone:Bool) (x:Ob) (A:Option Addr) (C Bo:Nat) (_T:World→Option Addr→Nat→World→Prop) (W:World) (i:Nat) (v:Value) (X:World):Prop:=
 match i with
 | 0=>v=.pointer (some ⟨D,0,none⟩)
 | 1=>v=.pointer (some ⟨D,0,none⟩)
 | 2=>v=.pointer (some ⟨D,0,none⟩)
 | 3=>v=.pointer (some ⟨K,0,none⟩)
 | 4=>v=.pointer (some ⟨Bo,2,none⟩)
 | 5=>v=.int .i64 x.ver
 | 6=>v=.bool gone
 | 7=>v=.agg #[.string x.kind,.string x.name,.int .i64 x.ver,.int .i64 x.born,.string x.text,.bool x.ending,.slice A x.hn C]
 | 8=>∃ A' C' hb',v=.agg #[.string x.kind,.string x.name,.int .i64 x.ver,.int .i64 x.born,.string x.text,.bool x.ending,.slice A' x.hn C']∧W.1.size≤hb'∧(x.hn≠0→hb'<X.1.size)∧StrsOwn X hb' (hb'+1) A' x.hn x.hs
 | 9=>∃ A' C' hb',v=.agg #[.int .i64 x.ver,.bool gone,.string x.kind,.string x.name,.int .i64 x.ver,.int .i64 x.born,.string x.text,.bool x.ending,.slice A' x.hn C']∧W.1.size≤hb'∧(x.hn≠0→hb'<X.1.size)∧StrsOwn X hb' (hb'+1) A' x.hn x.hs
 | _=>True
theorem apP2416 {P:Prop} (h:P:=by
  obtain ⟨A',C',hb',e1,g1,g2,g3⟩:=h
  exact ⟨A',C',hb',e1,g1,fun h0=>Nat.lt_of_lt_of_le (g2 h0) hb.size,g3.frP (FrP.of_below (P:=fun _=>False) hb) (fun h0=>⟨id,g2 h0⟩)⟩):P:=h
theorem puReg8 (p1 p2 p5 p6 p7 p8 p9 p10 p11 p12 p13 p14 p15 p16 p17 p18 p19 p20 p21 p22 p23 p24 p25 p26 p27 p28 p29 p30 p31 p32 p33 p34 p35 p36 p37 p38 p39 p40 p41 p42 p43 p44 p45 p46 p47 p48 p49 p50 p51 p52 p53 p54 p55 p56 p57 p58 p59 p60 p61 p62 p63 p64 p65 p66 p67 p68 p79:Value) (t0:Nat→Value) (D K:Nat) (y:Wr) (p:Nat) (fo gone:Bool) (x:Ob) (A:Option Addr) (C Bo:Nat) (T:World→Option Addr→Nat→World→Prop) (W:World) (hD:D<W.1.size) (hd:DeskAt W D K y (p:Nat) fo) (hx:RowF W Bo 7 (vec [.string x.kind,.string x.name,.int .i64 x.ver,.int .i64 x.born,.string x.text,.bool x.ending,.slice A x.hn C])) (hl:(x.hn:Int)≤1000) (hc:StrsIn W 0 W.1.size A x.hn x.hs) (ht:∀ X A' C',Below W.1.size W X→Calls Tryz.prog 161 #[.pointer (some ⟨K,0,none⟩),.agg #[.int .i64 x.ver,.bool gone,.string x.kind,.string x.name,.int .i64 x.ver,.int .i64 x.born,.string x.text,.bool x.ending,.slice A' x.hn C']] X fun e w'=>e=.returned (.tuple #[])∧T X A' C' w') (Q:Exit→Act→World→Prop) (hQ:∀ (t:Nat→Value) (v3:Value) X,(∃ A' C' hb' X1,Below W.1.size W X1∧W.1.size≤hb'∧(x.hn≠0→hb'<X1.1.size)∧StrsOwn X1 hb' (hb'+1) A' x.hn x.hs∧T X1 A' C' X)→Q .normal ⟨#[.pointer (some ⟨D,0,none⟩),p1,p2,.pointer (some ⟨Bo,0,none⟩),.bool gone,p5,p6,p7,p8,p9,p10,p11,p12,p13,p14,p15,p16,p17,p18,p19,p20,p21,p22,p23,p24,p25,p26,p27,p28,p29,p30,p31,p32,p33,p34,p35,p36,p37,p38,p39,p40,p41,p42,p43,p44,p45,p46,p47,p48,p49,p50,p51,p52,p53,p54,p55,p56,p57,p58,p59,p60,p61,p62,p63,p64,p65,p66,p67,p68,t 0,t 1,t 2,t 3,t 4,t 5,t 6,t 7,t 8,t 9,v3],[]⟩ X) :
  Code.wp Tryz.prog (Code.region 8 #[⟨some 69,.move (.tmp 0),196, "l2_book_write.go:244",#[],none⟩,⟨some 70,.nilCheck (.tmp 69),0, "l2_book_write.go:244",#[⟨0,.data⟩],none⟩,⟨some 71,.fieldAddr 141 (.tmp 70) 0,0, "l2_book_write.go:244",#[⟨1,.data⟩],none⟩,⟨some 72,.load 88 (.tmp 71),88, "l2_book_write.go:244",#[⟨2,.data⟩],none⟩,⟨some 73,.fieldAddr 118 (.tmp 3) 2,0, "l2_book_write.go:244",#[],none⟩,⟨some 74,.load 3 (.tmp 73),3, "l2_book_write.go:244",#[⟨4,.data⟩],none⟩,⟨some 75,.move (.tmp 4),4, "l2_book_write.go:244",#[],none⟩,⟨some 76,.load 118 (.tmp 3),118, "l2_book_write.go:244",#[],none⟩,⟨some 77,.call ⟨.value (.func 150),#[.tmp 76],#[118]⟩,118, "l2_book_write.go:244",#[⟨7,.data⟩],none⟩,⟨some 78,.build 120 #[(0,.tmp 74),(1,.tmp 75),(2,.tmp 77)],120, "l2_book_write.go:244",#[⟨5,.data⟩,⟨6,.data⟩,⟨8,.data⟩],none⟩,⟨some 79,.call ⟨.value (.func 161),#[.tmp 72,.tmp 78],#[88,120]⟩,0, "l2_book_write.go:244",#[⟨3,.data⟩,⟨9,.data⟩,⟨8,.chain⟩],none⟩] true) Q ⟨#[.pointer (some ⟨D,0,none⟩),p1,p2,.pointer (some ⟨Bo,0,none⟩),.bool gone,p5,p6,p7,p8,p9,p10,p11,p12,p13,p14,p15,p16,p17,p18,p19,p20,p21,p22,p23,p24,p25,p26,p27,p28,p29,p30,p31,p32,p33,p34,p35,p36,p37,p38,p39,p40,p41,p42,p43,p44,p45,p46,p47,p48,p49,p50,p51,p52,p53,p54,p55,p56,p57,p58,p59,p60,p61,p62,p63,p64,p65,p66,p67,p68,t0 0,t0 1,t0 2,t0 3,t0 4,t0 5,t0 6,t0 7,t0 8,t0 9,p79],[]⟩ W:=by
 refine regionJ Zf 10 (fun t:Nat→Value=>#[.pointer (some ⟨D,0,none⟩),p1,p2,.pointer (some ⟨Bo,0,none⟩),.bool gone,p5,p6,p7,p8,p9,p10,p11,p12,p13,p14,p15,p16,p17,p18,p19,p20,p21,p22,p23,p24,p25,p26,p27,p28,p29,p30,p31,p32,p33,p34,p35,p36,p37,p38,p39,p40,p41,p42,p43,p44,p45,p46,p47,p48,p49,p50,p51,p52,p53,p54,p55,p56,p57,p58,p59,p60,p61,p62,p63,p64,p65,p66,p67,p68,t 0,t 1,t 2,t 3,t 4,t 5,t 6,t 7,t 8,t 9,p79]) t0 (puReg8G D K y p fo gone x A C Bo T W) (fun a X=>∃ (t:Nat→Value) (v3:Value),a=⟨#[.pointer (some ⟨D,0,none⟩),p1,p2,.pointer (some ⟨Bo,0,none⟩),.bool gone,p5,p6,p7,p8,p9,p10,p11,p12,p13,p14,p15,p16,p17,p18,p19,p20,p21,p22,p23,p24,p25,p26,p27,p28,p29,p30,p31,p32,p33,p34,p35,p36,p37,p38,p39,p40,p41,p42,p43,p44,p45,p46,p47,p48,p49,p50,p51,p52,p53,p54,p55,p56,p57,p58,p59,p60,p61,p62,p63,p64,p65,p66,p67,p68,t 0,t 1,t 2,t 3,t 4,t 5,t 6,t 7,t 8,t 9,v3],[]⟩∧(∃ A' C' hb' X1,Below W.1.size W X1∧W.1.size≤hb'∧(x.hn≠0→hb'<X1.1.size)∧StrsOwn X1 hb' (hb'+1) A' x.hn x.hs∧T X1 A' C' X)) Zf Zf Zf ?_ rfl ?_ ?_ ?_
 ·intro i v X Y hi h hb
  rcases (show i=0∨i=1∨i=2∨i=3∨i=4∨i=5∨i=6∨i=7∨i=8∨i=9 by omega) with rfl|rfl|rfl|rfl|rfl|rfl|rfl|rfl|rfl|rfl
  ·exact h
  ·exact h
  ·exact h
  ·exact h
  ·exact h
  ·exact h
  ·exact h
  ·exact h
  ·exact apP2416
  ·exact apP2416
 ·intro i hi t X KK hb hg hKK
  rcases (show i=0∨i=1∨i=2∨i=3∨i=4∨i=5∨i=6∨i=7∨i=8∨i=9 by omega) with rfl|rfl|rfl|rfl|rfl|rfl|rfl|rfl|rfl|rfl
  ·exact apP241
  ·exact apP243
  ·exact apP244
  ·exact apP242
  ·have h:=hKK (.pointer (some ⟨Bo,2,none⟩)) X rfl Zbv
   refine wpOp_of rfl rfl ?_
   clear hKK hg
   go_simp
   simpa [updT] using h
  ·have e4:t 4=.pointer (some ⟨Bo,2,none⟩):=hg 4 (Wt rfl)
   have l0:=(hb.cell (p:=⟨Bo,2,none⟩) hx.lt).trans (show W.cell? ⟨Bo,2,none⟩=some (.int .i64 x.ver) from hx.cell 2 Ze)
   have zl:=Nat.lt_of_lt_of_le hx.lt hb.size
   have h:=hKK (.int .i64 x.ver) X rfl Zbv
   refine wpOp_of rfl rfl ?_
   clear hKK hg
   go_simp
   simpa [updT,e4] using h
  ·have h:=hKK (.bool gone) X rfl Zbv
   refine wpOp_of rfl rfl ?_
   clear hKK hg
   go_simp
   simpa [updT] using h
  ·exact apP240
  ·have e7:t 7=.agg #[.string x.kind,.string x.name,.int .i64 x.ver,.int .i64 x.born,.string x.text,.bool x.ending,.slice A x.hn C]:=hg 7 (Wt rfl)
   refine wpOp_of rfl rfl ?_
   have HK:=hid hKK
   have HST:=hid (hc.below hb Zbt)
   clear hKK hg
   go_simp
   go_at_call 150
   refine (copyOb_own x A C X 0 W.1.size hb.size Za HST.out).mono ?_
   rintro r Y ⟨A',C',hb',rfl,_,g1,g2,g3,hbY⟩
   have h:=HK.out _ Y ⟨A',C',hb',rfl,Nat.le_trans hb.size g1,g2,g3⟩ hbY
   simpa [updT,e7] using h
  ·have e5:t 5=.int .i64 x.ver:=hg 5 (Wt rfl)
   have e6:t 6=.bool gone:=hg 6 (Wt rfl)
   obtain ⟨A',C',hb',e8,g1,g2,g3⟩:∃ A' C' hb',t 8=.agg #[.string x.kind,.string x.name,.int .i64 x.ver,.int .i64 x.born,.string x.text,.bool x.ending,.slice A' x.hn C']∧W.1.size≤hb'∧(x.hn≠0→hb'<X.1.size)∧StrsOwn X hb' (hb'+1) A' x.hn x.hs:=hg 8 (Wt rfl)
   have h:=hKK (.agg #[.int .i64 x.ver,.bool gone,.string x.kind,.string x.name,.int .i64 x.ver,.int .i64 x.born,.string x.text,.bool x.ending,.slice A' x.hn C']) X ⟨A',C',hb',rfl,g1,g2,g3⟩ Zbv
   refine wpOp_of rfl rfl ?_
   clear hKK hg
   go_simp
   simpa [updT,e5,e6,e8] using h
 ·intro t X KK hb hg hKK
  have e3:t 3=.pointer (some ⟨K,0,none⟩):=hg 3 Za
  obtain ⟨A',C',hb',e9,g1,g2,g3⟩:∃ A' C' hb',t 9=.agg #[.int .i64 x.ver,.bool gone,.string x.kind,.string x.name,.int .i64 x.ver,.int .i64 x.born,.string x.text,.bool x.ending,.slice A' x.hn C']∧W.1.size≤hb'∧(x.hn≠0→hb'<X.1.size)∧StrsOwn X hb' (hb'+1) A' x.hn x.hs:=hg 9 Za
  refine wpOp_of rfl rfl ?_
  have HK:=hid hKK
  have HT:=hid ht
  clear hKK hg ht
  go_simp
  go_at_call 161
  refine (HT.out X A' C' hb).mono ?_
  rintro r Y ⟨rfl,hT⟩
  have h:=HK.out ⟨#[.pointer (some ⟨D,0,none⟩),p1,p2,.pointer (some ⟨Bo,0,none⟩),.bool gone,p5,p6,p7,p8,p9,p10,p11,p12,p13,p14,p15,p16,p17,p18,p19,p20,p21,p22,p23,p24,p25,p26,p27,p28,p29,p30,p31,p32,p33,p34,p35,p36,p37,p38,p39,p40,p41,p42,p43,p44,p45,p46,p47,p48,p49,p50,p51,p52,p53,p54,p55,p56,p57,p58,p59,p60,p61,p62,p63,p64,p65,p66,p67,p68,t 0,t 1,t 2,t 3,t 4,t 5,t 6,t 7,t 8,t 9,(.tuple #[])],[]⟩ Y ⟨t,.tuple #[],rfl,A',C',hb',X,hb,g1,g2,g3,hT⟩
  simpa [updT,e3,e9] using h
 ·rintro a X ⟨t,v3,rfl,hp⟩
  exact hQ t v3 X hp
theorem RowC.fr {w w':World} {P:Nat→Prop} {z:Nat} {ad:Option Addr} {b off n cap:Nat} {cs:List Value} (h:RowC w z ad b off n cap cs) (hf:FrP P w w') (hp:¬P b):RowC w' z ad b off n cap cs:=
 ⟨h.len,h.one,by
  rcases h.src with h1|⟨h1,h2,h3,h4⟩
  ·exact Or.inl h1
  ·exact Or.inr ⟨h1,h2,Nat.lt_of_lt_of_le h3 hf.size,fun t u hu=>(hf.cell (p:=⟨b,off+t,none⟩) h3 hp).trans (h4 t u hu)⟩⟩
def insL (cs:List Value) (k:Nat) (ce:List Value):List Value:=cs.take k ++ ce ++ cs.drop k
def remL (cs:List Value) (k z:Nat):List Value:=cs.take (k*z) ++ cs.drop ((k+1)*z)
def PutR (K:Nat) (x:Ob) (now:Int) (gone:Bool) (k1' k4:Value) (n' m:Nat) (cs' ch:List Value) (w w':World):Prop:=
 ∃ a1' c1' a2' c2' A' C' hb',w'.ownsRow w.1.size 118 7 (.slice a1' n' c1') n' cs'∧w'.ownsRow w.1.size 120 9 (.slice a2' m c2') m (ch ++ [.int .i64 (now+1),.bool gone,.string x.kind,.string x.name,.int .i64 (now+1),.int .i64 x.born,.string x.text,.bool x.ending,.slice A' x.hn C'])∧RowF w' K 5 (vec [.int .i64 (now+1),k1',.slice a1' n' c1',.slice a2' m c2',k4])∧w.1.size≤hb'∧(x.hn≠0→hb'<w'.1.size)∧StrsOwn w' hb' (hb'+1) A' x.hn x.hs∧FrP (fun q=>q=K) w w'∧(∀ g g',Value.ownBlock (.slice a1' n' c1')=some g→Value.ownBlock (.slice a2' m c2')=some g'→g<g')∧(x.hn≠0→(∀ g,Value.ownBlock (.slice a1' n' c1')=some g→g<hb')∧(∀ g,Value.ownBlock (.slice a2' m c2')=some g→hb'<g))
theorem apP2410 {P:Prop} (h:P:=by
  clear ho6 hr6 hf6 g1 g2 g3 hbX
  go_wp2
  exact bodyPost_end (results_none rfl _ _ _) rfl ⟨rfl,HP.out⟩):P:=h
theorem put_10 (D K:Nat) (y:Wr) (p:Nat) (x:Ob) (A:Option Addr) (C:Nat) (now:Int) (k1 k1' k3 k4:Value) (a1:Option Addr) (b off n c1:Nat) (cs ch:List Value) (m:Nat) (w:World) (hD:D<w.1.size) (hDK:¬D=K) (hbK:¬b=K) (hd:DeskAt w D K y (p:Nat) true) (hk:RowF w K 5 (vec [.int .i64 now,k1,.slice a1 n c1,k3,k4])) (hc:RowC w 7 a1 b off n c1 cs) (hp:p<n) (hl:(n:Int)≤1000) (hx:(x.hn:Int)≤1000) (hA:∀ X,FrP (fun q=>q=K) w X→StrsIn X 0 X.1.size A x.hn x.hs) (h0:0≤now) (h1:now≤1000000) (hg:standB ⟨x.kind,x.name,now+1,x.born,x.text,x.ending,x.hn,x.hs⟩=true)
  (TE:∀ (X:World) (A':Option Addr) (C':Nat) (o:Value),FrP (fun q=>q=K) w X→RowF X K 5 (vec [.int .i64 (now+1),k1,o,k3,k4])→Calls Tryz.prog 161 #[.pointer (some ⟨K,0,none⟩),.agg #[.int .i64 (now+1),.bool false,.string x.kind,.string x.name,.int .i64 (now+1),.int .i64 x.born,.string x.text,.bool x.ending,.slice A' x.hn C']] X fun e w'=>e=.returned (.tuple #[])∧∃ a4 c4,w'.ownsRow X.1.size 120 9 (.slice a4 m c4) m (ch ++ [.int .i64 (now+1),.bool false,.string x.kind,.string x.name,.int .i64 (now+1),.int .i64 x.born,.string x.text,.bool x.ending,.slice A' x.hn C'])∧RowF w' K 5 (vec [.int .i64 (now+1),k1',o,.slice a4 m c4,k4])∧FrP (fun q=>q=K) X w') :
  Calls Tryz.prog 102 #[.pointer (some ⟨D,0,none⟩),.agg #[.string x.kind,.string x.name,.int .i64 x.ver,.int .i64 x.born,.string x.text,.bool x.ending,.slice A x.hn C]] w fun e w'=>e=.returned (.tuple #[])∧PutR K x now false k1' k4 (n-1+1) m (insL (remL cs p 7) (p*7) [.string x.kind,.string x.name,.int .i64 (now+1),.int .i64 x.born,.string x.text,.bool x.ending,.slice A x.hn C]) ch w w':=by
 have zK:=hk.lt
 have F1:FrP (fun q=>q=K) w ((w.setCell ⟨K,0,none⟩ (.int .i64 (now+1))).alloc (.cells #[.string x.kind,.string x.name,.int .i64 (now+1),.int .i64 x.born,.string x.text,.bool x.ending,.slice A x.hn C] 118)):=(FrP.setCell (P:=fun q=>q=K) (FrP.refl _ _) rfl _).trans (FrP.of_below Zbu)
 have hw:IntKind.i64.wrap (now+1)=now+1:=IntWalk.i64_in _ ⟨Za,Za⟩
 have RK:=hid (show RowF ((w.setCell ⟨K,0,none⟩ (.int .i64 (now+1))).alloc (.cells #[.string x.kind,.string x.name,.int .i64 (now+1),.int .i64 x.born,.string x.text,.bool x.ending,.slice A x.hn C] 118)) K 5 (vec [.int .i64 (now+1),k1,.slice a1 n c1,k3,k4]) from (hk.vset Za (set5_0 _ _ _ _ _ _)).below Zbu (by simpa using zK))
 have DK1:=hid (hd.fr F1 hD hDK)
 have RC1:=hid (hc.fr F1 hbK)
 have HF1:=hid F1
 have HTE:=hid TE
 have HA:=hid hA
 have hd0:=hd.c0
 have kk0:=hk.cell 0 Ze
 have kk1:=hk.cell 1 Ze
 have kk2:=hk.cell 2 Ze
 have kk3:=hk.cell 3 Ze
 have kk4:=hk.cell 4 Ze
 have kkf:=hk.free
 simp only [vec,List.getD_cons_zero,List.getD_cons_succ] at kk0 kk1 kk2 kk3 kk4
 clear hk hc hd F1 TE hA
 go_enter Tryz.func102,Tryz.ntmps102
 go_wp2_with fail
 refine (mayStand_any ⟨x.kind,x.name,now+1,x.born,x.text,x.ending,x.hn,x.hs⟩ A C _ Zbm).mono ?_
 rintro e w2 ⟨rfl,hb2⟩
 rw [hg]
 have RX:=hid (RowF.new (w:=w.setCell ⟨K,0,none⟩ (.int .i64 (now+1))) (l:=[.string x.kind,.string x.name,.int .i64 (now+1),.int .i64 x.born,.string x.text,.bool x.ending,.slice A x.hn C]) (t:=118) hb2)
 simp only [World.size_setCell] at RX
 have RK2:=hid (RK.out.below hb2 RK.out.lt)
 have F2:=hid (HF1.out.trans (FrP.of_below hb2))
 have DK2:=hid (DK1.out.grow hb2 Zc)
 have RC2:=hid (RC1.out.grow hb2)
 have z2:w.1.size<w2.1.size:=RX.out.lt
 have dk8:=DK2.out.c8
 have zD2:D<w2.1.size:=Za
 clear hb2 kk0 kk1 kk2 kk3 kk4 kkf hd0 RK DK1 RC1 HF1
 go_wp2_with fail
 clear dk8
 refine puReg5 _ _ _ _ _ _ _ _ _ _ _ _ _ _ _ _ _ _ _ _ _ _ _ _ _ _ _ _ _ _ _ _ _ _ _ _ _ _ _ _ _ _ _ _ _ _ _ _ _ _ _ _ _ _ _ _ _ _ _ _ _ (fun _=>undef) D K y p true (.int .i64 (now+1)) k1 k3 k4 a1 b off n c1 cs w2 zD2 DK2.out RK2.out RC2.out hp Za _ ?_
 rintro t v3 w3 ⟨a4,c4,hown,hr,hf⟩
 have z3:=hf.size
 have HO3:=hid (own_base hown (show w.1.size≤_ by omega))
 have RK3:=hid hr
 have F3:=hid (F2.out.trans hf)
 have DK3:=hid (DK2.out.fr hf zD2 hDK)
 have RX3:=hid (RX.out.fr hf Za)
 have zD3:D<w3.1.size:=Za
 have dk8:=DK3.out.c8
 clear hown hr hf
 go_wp2_with fail
 clear dk8
 have hone:∀ u ∈ cs.take (p*7) ++ cs.drop ((p+1)*7),u.oneCell'=true:=fun u hu=>by
  rcases List.mem_append.1 hu with h|h
  ·exact RC2.out.one u (List.mem_of_mem_take h)
  ·exact RC2.out.one u (List.mem_of_mem_drop h)
 obtain ⟨g4,RC3,_⟩:=own_rowC HO3.out hone
 refine puReg7 _ _ _ _ _ _ _ _ _ _ _ _ _ _ _ _ _ _ _ _ _ _ _ _ _ _ _ _ _ _ _ _ _ _ _ _ _ _ _ _ _ _ _ _ _ _ _ _ _ _ _ _ _ _ _ _ _ _ _ (fun _=>undef) D K y p true (.int .i64 (now+1)) k1 k3 k4 a4 g4 0 (n-1) c4 _ ⟨x.kind,x.name,now+1,x.born,x.text,x.ending,x.hn,x.hs⟩ A C w.1.size w3 zD3 DK3.out RK3.out RC3 Za Za RX3.out _ ?_
 rintro t2 v5 w4 ⟨a5,c5,hown,hr,hf⟩
 have z4:=hf.size
 have HO4:=hid (own_base hown (show w.1.size≤_ by omega))
 have RK4:=hid hr
 have F4:=hid (F3.out.trans hf)
 have DK4:=hid (DK3.out.fr hf zD3 hDK)
 have RX4:=hid (RX3.out.fr hf Za)
 have zD4:D<w4.1.size:=Za
 clear hown hr hf RC3
 go_wp2_with fail
 refine puReg8 _ _ _ _ _ _ _ _ _ _ _ _ _ _ _ _ _ _ _ _ _ _ _ _ _ _ _ _ _ _ _ _ _ _ _ _ _ _ _ _ _ _ _ _ _ _ _ _ _ _ _ _ _ _ _ _ _ _ _ _ _ _ _ _ _ _ _ (fun _=>undef) D K y p true false ⟨x.kind,x.name,now+1,x.born,x.text,x.ending,x.hn,x.hs⟩ A C w.1.size (fun X A' C' w'=>∃ a6 c6,w'.ownsRow X.1.size 120 9 (.slice a6 m c6) m (ch ++ [.int .i64 (now+1),.bool false,.string x.kind,.string x.name,.int .i64 (now+1),.int .i64 x.born,.string x.text,.bool x.ending,.slice A' x.hn C'])∧RowF w' K 5 (vec [.int .i64 (now+1),k1',.slice a5 (n-1+1) c5,.slice a6 m c6,k4])∧FrP (fun q=>q=K) X w') w4 zD4 DK4.out RX4.out Zbm (HA.out _ F4.out) (fun X A' C' hbX=>HTE.out X A' C' _ (F4.out.trans (FrP.of_below hbX)) (RK4.out.below hbX RK4.out.lt)) _ ?_
 rintro t3 v6 w5 ⟨A',C',hb',X1,hbX,g1,g2,g3,a6,c6,ho6,hr6,hf6⟩
 have z5:=hbX.size
 have z6:=hf6.size
 have HP:=hid (show PutR K x now false k1' k4 (n-1+1) m (insL (remL cs p 7) (p*7) [.string x.kind,.string x.name,.int .i64 (now+1),.int .i64 x.born,.string x.text,.bool x.ending,.slice A x.hn C]) ch w w5 from
  ⟨a5,c5,a6,c6,A',C',hb',ownsRow_fr (own_grow HO4.out hbX) hf6 (fun g hg e=>by have:=(HO4.out.lt g hg).1;omega),own_base ho6 Za,hr6,Za,fun h0=>Nat.lt_of_lt_of_le (g2 h0) hf6.size,g3.frP hf6 (fun h0=>⟨Za,g2 h0⟩),(F4.out.trans (FrP.of_below hbX)).trans hf6,fun g g' h h'=>by have:=(HO4.out.lt g h).2;have:=(ho6.lt g' h').1;omega,fun h0=>⟨fun g h=>by have:=(HO4.out.lt g h).2;omega,fun g h=>by have:=(ho6.lt g h).1;have:=g2 h0;omega⟩⟩)
 exact apP2410
theorem put_11 (D K:Nat) (y:Wr) (p:Nat) (x:Ob) (A:Option Addr) (C:Nat) (now:Int) (k1 k1' k3 k4:Value) (a1:Option Addr) (b off n c1:Nat) (cs ch:List Value) (m:Nat) (w:World) (hD:D<w.1.size) (hDK:¬D=K) (hbK:¬b=K) (hd:DeskAt w D K y (p:Nat) true) (hk:RowF w K 5 (vec [.int .i64 now,k1,.slice a1 n c1,k3,k4])) (hc:RowC w 7 a1 b off n c1 cs) (hp:p<n) (hl:(n:Int)≤1000) (hx:(x.hn:Int)≤1000) (hA:∀ X,FrP (fun q=>q=K) w X→StrsIn X 0 X.1.size A x.hn x.hs) (h0:0≤now) (h1:now≤1000000) (hg:standB ⟨x.kind,x.name,now+1,x.born,x.text,x.ending,x.hn,x.hs⟩=false)
  (TE:∀ (X:World) (A':Option Addr) (C':Nat) (o:Value),FrP (fun q=>q=K) w X→RowF X K 5 (vec [.int .i64 (now+1),k1,o,k3,k4])→Calls Tryz.prog 161 #[.pointer (some ⟨K,0,none⟩),.agg #[.int .i64 (now+1),.bool true,.string x.kind,.string x.name,.int .i64 (now+1),.int .i64 x.born,.string x.text,.bool x.ending,.slice A' x.hn C']] X fun e w'=>e=.returned (.tuple #[])∧∃ a4 c4,w'.ownsRow X.1.size 120 9 (.slice a4 m c4) m (ch ++ [.int .i64 (now+1),.bool true,.string x.kind,.string x.name,.int .i64 (now+1),.int .i64 x.born,.string x.text,.bool x.ending,.slice A' x.hn C'])∧RowF w' K 5 (vec [.int .i64 (now+1),k1',o,.slice a4 m c4,k4])∧FrP (fun q=>q=K) X w') :
  Calls Tryz.prog 102 #[.pointer (some ⟨D,0,none⟩),.agg #[.string x.kind,.string x.name,.int .i64 x.ver,.int .i64 x.born,.string x.text,.bool x.ending,.slice A x.hn C]] w fun e w'=>e=.returned (.tuple #[])∧PutR K x now true k1' k4 (n-1) m (remL cs p 7) ch w w':=by
 have zK:=hk.lt
 have F1:FrP (fun q=>q=K) w ((w.setCell ⟨K,0,none⟩ (.int .i64 (now+1))).alloc (.cells #[.string x.kind,.string x.name,.int .i64 (now+1),.int .i64 x.born,.string x.text,.bool x.ending,.slice A x.hn C] 118)):=(FrP.setCell (P:=fun q=>q=K) (FrP.refl _ _) rfl _).trans (FrP.of_below Zbu)
 have hw:IntKind.i64.wrap (now+1)=now+1:=IntWalk.i64_in _ ⟨Za,Za⟩
 have RK:=hid (show RowF ((w.setCell ⟨K,0,none⟩ (.int .i64 (now+1))).alloc (.cells #[.string x.kind,.string x.name,.int .i64 (now+1),.int .i64 x.born,.string x.text,.bool x.ending,.slice A x.hn C] 118)) K 5 (vec [.int .i64 (now+1),k1,.slice a1 n c1,k3,k4]) from (hk.vset Za (set5_0 _ _ _ _ _ _)).below Zbu (by simpa using zK))
 have DK1:=hid (hd.fr F1 hD hDK)
 have RC1:=hid (hc.fr F1 hbK)
 have HF1:=hid F1
 have HTE:=hid TE
 have HA:=hid hA
 have hd0:=hd.c0
 have kk0:=hk.cell 0 Ze
 have kk1:=hk.cell 1 Ze
 have kk2:=hk.cell 2 Ze
 have kk3:=hk.cell 3 Ze
 have kk4:=hk.cell 4 Ze
 have kkf:=hk.free
 simp only [vec,List.getD_cons_zero,List.getD_cons_succ] at kk0 kk1 kk2 kk3 kk4
 clear hk hc hd F1 TE hA
 go_enter Tryz.func102,Tryz.ntmps102
 go_wp2_with fail
 refine (mayStand_any ⟨x.kind,x.name,now+1,x.born,x.text,x.ending,x.hn,x.hs⟩ A C _ Zbm).mono ?_
 rintro e w2 ⟨rfl,hb2⟩
 rw [hg]
 have RX:=hid (RowF.new (w:=w.setCell ⟨K,0,none⟩ (.int .i64 (now+1))) (l:=[.string x.kind,.string x.name,.int .i64 (now+1),.int .i64 x.born,.string x.text,.bool x.ending,.slice A x.hn C]) (t:=118) hb2)
 simp only [World.size_setCell] at RX
 have RK2:=hid (RK.out.below hb2 RK.out.lt)
 have F2:=hid (HF1.out.trans (FrP.of_below hb2))
 have DK2:=hid (DK1.out.grow hb2 Zc)
 have RC2:=hid (RC1.out.grow hb2)
 have z2:w.1.size<w2.1.size:=RX.out.lt
 have dk8:=DK2.out.c8
 have zD2:D<w2.1.size:=Za
 clear hb2 kk0 kk1 kk2 kk3 kk4 kkf hd0 RK DK1 RC1 HF1
 go_wp2_with fail
 clear dk8
 refine puReg5 _ _ _ _ _ _ _ _ _ _ _ _ _ _ _ _ _ _ _ _ _ _ _ _ _ _ _ _ _ _ _ _ _ _ _ _ _ _ _ _ _ _ _ _ _ _ _ _ _ _ _ _ _ _ _ _ _ _ _ _ _ (fun _=>undef) D K y p true (.int .i64 (now+1)) k1 k3 k4 a1 b off n c1 cs w2 zD2 DK2.out RK2.out RC2.out hp Za _ ?_
 rintro t v3 w3 ⟨a4,c4,hown,hr,hf⟩
 have z3:=hf.size
 have HO3:=hid (own_base hown (show w.1.size≤_ by omega))
 have RK3:=hid hr
 have F3:=hid (F2.out.trans hf)
 have DK3:=hid (DK2.out.fr hf zD2 hDK)
 have RX3:=hid (RX.out.fr hf Za)
 have zD3:D<w3.1.size:=Za
 have dk8:=DK3.out.c8
 clear hown hr hf
 go_wp2_with fail
 clear dk8
 refine puReg8 _ _ _ _ _ _ _ _ _ _ _ _ _ _ _ _ _ _ _ _ _ _ _ _ _ _ _ _ _ _ _ _ _ _ _ _ _ _ _ _ _ _ _ _ _ _ _ _ _ _ _ _ _ _ _ _ _ _ _ _ _ _ _ _ _ _ _ (fun _=>undef) D K y p true true ⟨x.kind,x.name,now+1,x.born,x.text,x.ending,x.hn,x.hs⟩ A C w.1.size (fun X A' C' w'=>∃ a6 c6,w'.ownsRow X.1.size 120 9 (.slice a6 m c6) m (ch ++ [.int .i64 (now+1),.bool true,.string x.kind,.string x.name,.int .i64 (now+1),.int .i64 x.born,.string x.text,.bool x.ending,.slice A' x.hn C'])∧RowF w' K 5 (vec [.int .i64 (now+1),k1',.slice a4 (n-1) c4,.slice a6 m c6,k4])∧FrP (fun q=>q=K) X w') w3 zD3 DK3.out RX3.out Zbm (HA.out _ F3.out) (fun X A' C' hbX=>HTE.out X A' C' _ (F3.out.trans (FrP.of_below hbX)) (RK3.out.below hbX RK3.out.lt)) _ ?_
 rintro t3 v6 w5 ⟨A',C',hb',X1,hbX,g1,g2,g3,a6,c6,ho6,hr6,hf6⟩
 have z5:=hbX.size
 have z6:=hf6.size
 have HP:=hid (show PutR K x now true k1' k4 (n-1) m (remL cs p 7) ch w w5 from
  ⟨a4,c4,a6,c6,A',C',hb',ownsRow_fr (own_grow HO3.out hbX) hf6 (fun g hg e=>by have:=(HO3.out.lt g hg).1;omega),own_base ho6 Za,hr6,Za,fun h0=>Nat.lt_of_lt_of_le (g2 h0) hf6.size,g3.frP hf6 (fun h0=>⟨Za,g2 h0⟩),(F3.out.trans (FrP.of_below hbX)).trans hf6,fun g g' h h'=>by have:=(HO3.out.lt g h).2;have:=(ho6.lt g' h').1;omega,fun h0=>⟨fun g h=>by have:=(HO3.out.lt g h).2;omega,fun g h=>by have:=(ho6.lt g h).1;have:=g2 h0;omega⟩⟩)
 exact apP2410
theorem put_00 (D K:Nat) (y:Wr) (p:Nat) (x:Ob) (A:Option Addr) (C:Nat) (now:Int) (k1 k1' k3 k4:Value) (a1:Option Addr) (b off n c1:Nat) (cs ch:List Value) (m:Nat) (w:World) (hD:D<w.1.size) (hDK:¬D=K) (hbK:¬b=K) (hd:DeskAt w D K y (p:Nat) false) (hk:RowF w K 5 (vec [.int .i64 now,k1,.slice a1 n c1,k3,k4])) (hc:RowC w 7 a1 b off n c1 cs) (hp:p≤n) (hl:(n:Int)≤1000) (hx:(x.hn:Int)≤1000) (hA:∀ X,FrP (fun q=>q=K) w X→StrsIn X 0 X.1.size A x.hn x.hs) (h0:0≤now) (h1:now≤1000000) (hg:standB ⟨x.kind,x.name,now+1,x.born,x.text,x.ending,x.hn,x.hs⟩=true)
  (TE:∀ (X:World) (A':Option Addr) (C':Nat) (o:Value),FrP (fun q=>q=K) w X→RowF X K 5 (vec [.int .i64 (now+1),k1,o,k3,k4])→Calls Tryz.prog 161 #[.pointer (some ⟨K,0,none⟩),.agg #[.int .i64 (now+1),.bool false,.string x.kind,.string x.name,.int .i64 (now+1),.int .i64 x.born,.string x.text,.bool x.ending,.slice A' x.hn C']] X fun e w'=>e=.returned (.tuple #[])∧∃ a4 c4,w'.ownsRow X.1.size 120 9 (.slice a4 m c4) m (ch ++ [.int .i64 (now+1),.bool false,.string x.kind,.string x.name,.int .i64 (now+1),.int .i64 x.born,.string x.text,.bool x.ending,.slice A' x.hn C'])∧RowF w' K 5 (vec [.int .i64 (now+1),k1',o,.slice a4 m c4,k4])∧FrP (fun q=>q=K) X w') :
  Calls Tryz.prog 102 #[.pointer (some ⟨D,0,none⟩),.agg #[.string x.kind,.string x.name,.int .i64 x.ver,.int .i64 x.born,.string x.text,.bool x.ending,.slice A x.hn C]] w fun e w'=>e=.returned (.tuple #[])∧PutR K x now false k1' k4 (n+1) m (insL cs (p*7) [.string x.kind,.string x.name,.int .i64 (now+1),.int .i64 x.born,.string x.text,.bool x.ending,.slice A x.hn C]) ch w w':=by
 have zK:=hk.lt
 have F1:FrP (fun q=>q=K) w ((w.setCell ⟨K,0,none⟩ (.int .i64 (now+1))).alloc (.cells #[.string x.kind,.string x.name,.int .i64 (now+1),.int .i64 x.born,.string x.text,.bool x.ending,.slice A x.hn C] 118)):=(FrP.setCell (P:=fun q=>q=K) (FrP.refl _ _) rfl _).trans (FrP.of_below Zbu)
 have hw:IntKind.i64.wrap (now+1)=now+1:=IntWalk.i64_in _ ⟨Za,Za⟩
 have RK:=hid (show RowF ((w.setCell ⟨K,0,none⟩ (.int .i64 (now+1))).alloc (.cells #[.string x.kind,.string x.name,.int .i64 (now+1),.int .i64 x.born,.string x.text,.bool x.ending,.slice A x.hn C] 118)) K 5 (vec [.int .i64 (now+1),k1,.slice a1 n c1,k3,k4]) from (hk.vset Za (set5_0 _ _ _ _ _ _)).below Zbu (by simpa using zK))
 have DK1:=hid (hd.fr F1 hD hDK)
 have RC1:=hid (hc.fr F1 hbK)
 have HF1:=hid F1
 have HTE:=hid TE
 have HA:=hid hA
 have hd0:=hd.c0
 have kk0:=hk.cell 0 Ze
 have kk1:=hk.cell 1 Ze
 have kk2:=hk.cell 2 Ze
 have kk3:=hk.cell 3 Ze
 have kk4:=hk.cell 4 Ze
 have kkf:=hk.free
 simp only [vec,List.getD_cons_zero,List.getD_cons_succ] at kk0 kk1 kk2 kk3 kk4
 clear hk hc hd F1 TE hA
 go_enter Tryz.func102,Tryz.ntmps102
 go_wp2_with fail
 refine (mayStand_any ⟨x.kind,x.name,now+1,x.born,x.text,x.ending,x.hn,x.hs⟩ A C _ Zbm).mono ?_
 rintro e w2 ⟨rfl,hb2⟩
 rw [hg]
 have RX:=hid (RowF.new (w:=w.setCell ⟨K,0,none⟩ (.int .i64 (now+1))) (l:=[.string x.kind,.string x.name,.int .i64 (now+1),.int .i64 x.born,.string x.text,.bool x.ending,.slice A x.hn C]) (t:=118) hb2)
 simp only [World.size_setCell] at RX
 have RK2:=hid (RK.out.below hb2 RK.out.lt)
 have F2:=hid (HF1.out.trans (FrP.of_below hb2))
 have DK2:=hid (DK1.out.grow hb2 Zc)
 have RC2:=hid (RC1.out.grow hb2)
 have z2:w.1.size<w2.1.size:=RX.out.lt
 have dk8:=DK2.out.c8
 have zD2:D<w2.1.size:=Za
 clear hb2 kk0 kk1 kk2 kk3 kk4 kkf hd0 RK DK1 RC1 HF1
 go_wp2_with fail
 clear dk8
 refine puReg7 _ _ _ _ _ _ _ _ _ _ _ _ _ _ _ _ _ _ _ _ _ _ _ _ _ _ _ _ _ _ _ _ _ _ _ _ _ _ _ _ _ _ _ _ _ _ _ _ _ _ _ _ _ _ _ _ _ _ _ (fun _=>undef) D K y p false (.int .i64 (now+1)) k1 k3 k4 a1 b off n c1 cs ⟨x.kind,x.name,now+1,x.born,x.text,x.ending,x.hn,x.hs⟩ A C w.1.size w2 zD2 DK2.out RK2.out RC2.out hp Za RX.out _ ?_
 rintro t2 v5 w4 ⟨a5,c5,hown,hr,hf⟩
 have z4:=hf.size
 have HO4:=hid (own_base hown (show w.1.size≤_ by omega))
 have RK4:=hid hr
 have F4:=hid (F2.out.trans hf)
 have DK4:=hid (DK2.out.fr hf zD2 hDK)
 have RX4:=hid (RX.out.fr hf Za)
 have zD4:D<w4.1.size:=Za
 clear hown hr hf
 go_wp2_with fail
 refine puReg8 _ _ _ _ _ _ _ _ _ _ _ _ _ _ _ _ _ _ _ _ _ _ _ _ _ _ _ _ _ _ _ _ _ _ _ _ _ _ _ _ _ _ _ _ _ _ _ _ _ _ _ _ _ _ _ _ _ _ _ _ _ _ _ _ _ _ _ (fun _=>undef) D K y p false false ⟨x.kind,x.name,now+1,x.born,x.text,x.ending,x.hn,x.hs⟩ A C w.1.size (fun X A' C' w'=>∃ a6 c6,w'.ownsRow X.1.size 120 9 (.slice a6 m c6) m (ch ++ [.int .i64 (now+1),.bool false,.string x.kind,.string x.name,.int .i64 (now+1),.int .i64 x.born,.string x.text,.bool x.ending,.slice A' x.hn C'])∧RowF w' K 5 (vec [.int .i64 (now+1),k1',.slice a5 (n+1) c5,.slice a6 m c6,k4])∧FrP (fun q=>q=K) X w') w4 zD4 DK4.out RX4.out Zbm (HA.out _ F4.out) (fun X A' C' hbX=>HTE.out X A' C' _ (F4.out.trans (FrP.of_below hbX)) (RK4.out.below hbX RK4.out.lt)) _ ?_
 rintro t3 v6 w5 ⟨A',C',hb',X1,hbX,g1,g2,g3,a6,c6,ho6,hr6,hf6⟩
 have z5:=hbX.size
 have z6:=hf6.size
 have HP:=hid (show PutR K x now false k1' k4 (n+1) m (insL cs (p*7) [.string x.kind,.string x.name,.int .i64 (now+1),.int .i64 x.born,.string x.text,.bool x.ending,.slice A x.hn C]) ch w w5 from
  ⟨a5,c5,a6,c6,A',C',hb',ownsRow_fr (own_grow HO4.out hbX) hf6 (fun g hg e=>by have:=(HO4.out.lt g hg).1;omega),own_base ho6 Za,hr6,Za,fun h0=>Nat.lt_of_lt_of_le (g2 h0) hf6.size,g3.frP hf6 (fun h0=>⟨Za,g2 h0⟩),(F4.out.trans (FrP.of_below hbX)).trans hf6,fun g g' h h'=>by have:=(HO4.out.lt g h).2;have:=(ho6.lt g' h').1;omega,fun h0=>⟨fun g h=>by have:=(HO4.out.lt g h).2;omega,fun g h=>by have:=(ho6.lt g h).1;have:=g2 h0;omega⟩⟩)
 exact apP2410
end Go.Proofs.YtllmmkchokkaaaaGreatDoor
