import Derived.Test.YtllmmkchokkaaaaGreatDoorPk34
set_option maxRecDepth 100000
namespace Go.Proofs.YtllmmkchokkaaaaGreatDoor
open Go.RowKit Go.Maps
theorem rowE_own {w:World} {base g cap:Nat} {L:List EO} (h:w.ownsRow base 118 7 (.slice (some ⟨g,0,none⟩) L.length cap) L.length (cellsE L)) (hg:g<w.1.size):RowE w g L:=
 ⟨hg,fun j=>h.frozenAt j,fun i hi=>by
  have hc:∀ r,r<7→w.cell? ⟨g,i*7+r,none⟩=(encE (ixE L i))[r]?:=fun r hr=>by
   rw [h.cellAt (i*7+r) (by omega),cellsE_at L i r hi hr]
  exact ⟨hc 0 (by decide),hc 1 (by decide),hc 2 (by decide),hc 3 (by decide),hc 4 (by decide),hc 5 (by decide),hc 6 (by decide)⟩⟩
theorem own_at {w:World} {base e z n:Nat} {a:Option Addr} {c:Nat} {xs:List Value} (h:w.ownsRow base e z (.slice a n c) n xs):∃ g,(0<n→a=some ⟨g,0,none⟩∧Value.ownBlock (.slice a n c)=some g∧base≤g∧g<w.1.size):=by
 rcases h.2 with ⟨_,e2⟩|⟨g,cap',cur,e1,e2,e3,e4⟩
 ·exact ⟨0,fun h0=>by omega⟩
 ·cases e1
  exact ⟨g,fun _=>⟨rfl,rfl,e2,(Array.getElem?_eq_some_iff.1 e3).1⟩⟩
theorem atCh_one {c:Nat→Value} {i:Nat} {y:Ch} {A:Option Addr} {C:Nat} (h:atCh c i y A C):∀ r,r<9→(c (i*9+r)).oneCell'=true:=fun r hr=>by
 obtain ⟨h0,h1,h2,h3,h4,h5,h6,h7,h8⟩:=h
 rcases (show r=0∨r=1∨r=2∨r=3∨r=4∨r=5∨r=6∨r=7∨r=8 by omega) with rfl|rfl|rfl|rfl|rfl|rfl|rfl|rfl|rfl
 ·rw [Nat.add_zero,h0];rfl
 ·rw [h1];rfl
 ·rw [h2];rfl
 ·rw [h3];rfl
 ·rw [h4];rfl
 ·rw [h5];rfl
 ·rw [h6];rfl
 ·rw [h7];rfl
 ·rw [h8];rfl
theorem rowCells_idx {m:Nat} {c:Nat→Value} {j:Nat} (h:j<m):(rowCells m c)[j]? = some (c j):=by simp [rowCells,h]
theorem rowC_ch {w:World} {ad:Option Addr} {g n cap:Nat} {x:Nat→Ch} {A:Nat→Option Addr} {C hb:Nat→Nat} (h:ChsAt w ad g n x A C hb) (hc:CapOk n ad cap):∃ c:Nat→Value,RowC w 9 ad g 0 n cap (rowCells (n*9) c)∧∀ i,i<n→atCh c i (x i) (A i) (C i):=by
 rcases Nat.eq_zero_or_pos n with h0|h0
 ·subst h0
  have e:=hc.2.2 rfl
  exact ⟨fun _=>.int .i64 0,⟨by simp [rowCells],fun u hu=>by simp [rowCells] at hu,Or.inl ⟨e,rfl,hc.2.1 e⟩⟩,fun i hi=>absurd hi (Nat.not_lt_zero _)⟩
 ·obtain ⟨c,r,hat⟩:=h.row h0
  refine ⟨c,⟨rowCells_len _ _,fun u hu=>?_,Or.inr ⟨h.addr h0,hc.1,r.lt,fun t u hu=>?_⟩⟩,hat⟩
  ·obtain ⟨j,hj,rfl⟩:=List.mem_map.1 hu
   have hj':j<n*9:=by simpa using hj
   have:=atCh_one (hat (j / 9) (by omega)) (j % 9) (by omega)
   rwa [show j / 9*9+j % 9=j by omega] at this
  ·obtain ⟨h1,rfl⟩:=rowCells_get hu
   rw [Nat.zero_add]
   exact r.cell t h1
def newC (B:Bk) (c:Nat→Value) (nw:List Value):Nat→Value:=fun j=>if j<(B.hn-wCut B)*9 then c (j+wCut B*9) else nw.getD (j-(B.hn-wCut B)*9) (.int .i64 0)
theorem newC_cells (B:Bk) (c:Nat→Value) (nw:List Value) (hl:nw.length=9) (hcut:wCut B≤B.hn):(rowCells (B.hn*9) c).drop (wCut B*9) ++ nw=rowCells ((B.hn-wCut B+1)*9) (newC B c nw):=by
 have hd:((rowCells (B.hn*9) c).drop (wCut B*9)).length=(B.hn-wCut B)*9:=by rw [List.length_drop,rowCells_len];omega
 refine List.ext_getElem? fun j=>?_
 rcases Nat.lt_or_ge j ((B.hn-wCut B)*9) with h|h
 ·rw [List.getElem?_append_left (by omega),List.getElem?_drop,rowCells_idx (by omega),rowCells_idx (by omega)]
  unfold newC
  rw [if_pos h,Nat.add_comm]
 ·rw [List.getElem?_append_right (by omega),hd]
  rcases Nat.lt_or_ge j ((B.hn-wCut B+1)*9) with h2|h2
  ·rw [rowCells_idx h2]
   unfold newC
   rw [if_neg (by omega),List.getD_eq_getElem?_getD]
   have:j-(B.hn-wCut B)*9<nw.length:=by omega
   rw [List.getElem?_eq_getElem this]
   rfl
  ·rw [List.getElem?_eq_none (by omega),List.getElem?_eq_none (by rw [rowCells_len];omega)]
theorem newC_old {B:Bk} {c:Nat→Value} {nw:List Value} {i:Nat} {y:Ch} {A:Option Addr} {C:Nat} (hi:i<B.hn-wCut B) (h:atCh c (i+wCut B) y A C):atCh (newC B c nw) i y A C:=by
 have e:∀ r,r<9→newC B c nw (i*9+r)=c ((i+wCut B)*9+r):=fun r hr=>by
  unfold newC
  rw [if_pos (by omega),show i*9+r+wCut B*9=(i+wCut B)*9+r by omega]
 obtain ⟨h0,h1,h2,h3,h4,h5,h6,h7,h8⟩:=h
 exact ⟨(e 0 (by decide)).trans h0,(e 1 (by decide)).trans h1,(e 2 (by decide)).trans h2,(e 3 (by decide)).trans h3,(e 4 (by decide)).trans h4,(e 5 (by decide)).trans h5,(e 6 (by decide)).trans h6,(e 7 (by decide)).trans h7,(e 8 (by decide)).trans h8⟩
theorem newC_new {B:Bk} {c:Nat→Value} {y:Ch} {A:Option Addr} {C:Nat} : atCh (newC B c [.int .i64 y.ver,.bool y.gone,.string y.ob.kind,.string y.ob.name,.int .i64 y.ob.ver,.int .i64 y.ob.born,.string y.ob.text,.bool y.ob.ending,.slice A y.ob.hn C]) (B.hn-wCut B) y A C:=by
 have e:∀ (nw:List Value) r,newC B c nw ((B.hn-wCut B)*9+r)=nw.getD r (.int .i64 0):=fun nw r=>by
  unfold newC
  rw [if_neg (by omega),show (B.hn-wCut B)*9+r-(B.hn-wCut B)*9=r by omega]
 exact ⟨e _ 0,e _ 1,e _ 2,e _ 3,e _ 4,e _ 5,e _ 6,e _ 7,e _ 8⟩
theorem ObsAt.congr {w:World} {ad:Option Addr} {g n m:Nat} {x y:Nat→Ob} {A:Nat→Option Addr} {C hb:Nat→Nat} (h:ObsAt w ad g n x A C hb) (hn:n=m) (he:∀ i,i<m→x i=y i):ObsAt w ad g m y A C hb:=by
 subst hn
 refine ⟨h.addr,fun h0=>?_,fun i hi=>by rw [←he i hi];exact h.hold i hi,fun i hi h0=>h.hlt i hi (by rw [he i hi];exact h0),⟨fun i hi h0=>h.ap.ne i hi (by rw [he i hi];exact h0),fun i j hi hj h1 h2 e=>h.ap.inj i j hi hj (by rw [he i hi];exact h1) (by rw [he j hj];exact h2) e⟩⟩
 obtain ⟨c,r,hat⟩:=h.row h0
 exact ⟨c,r,fun i hi=>by rw [←he i hi];exact hat i hi⟩
theorem wCut_le (B:Bk):wCut B≤B.hn:=by unfold wCut;split<;>omega
theorem bkAt_wr {w0 X w':World} {K:Nat} {B:Bk} {v:Wr} {p:Pl} {E:EO} {c:Nat→Value} {k1':Value} {d3:Nat} (hat:BkAt w0 B p) (hb:Below w0.1.size w0 X) (hK:w0.1.size≤K) (hKX:K<X.1.size) (hok:WOk B v) (hc:wCode B v=0)
  (hch:∀ i,i<B.hn→atCh c i (B.hs i) (p.A2 i) (p.C2 i)) (hE:EOk B v (rowE B.on B.os p.A1 p.C1 p.h1) w0 X E) (hKE:E.ob.hn≠0→¬E.hb=K)
  (hP:PutR K E.ob B.now (wGone B v) k1' (.slice p.a3 B.tn d3) (L2 B v (rowE B.on B.os p.A1 p.C1 p.h1) E).length (B.hn-wCut B+1) (cellsE (L2 B v (rowE B.on B.os p.A1 p.C1 p.h1) E)) ((rowCells (B.hn*9) c).drop (wCut B*9)) X w') :
  ∃ (q:Pl) (c1' c2':Nat),RowF w' K 5 (vec [.int .i64 (B.now+1),k1',.slice q.a1 (wBk B v).on c1',.slice q.a2 (wBk B v).hn c2',.slice q.a3 (wBk B v).tn d3])∧BkAt w' (wBk B v) q∧(∀ k,blkB q (wBk B v) k→blkB p B k∨w0.1.size≤k):=by
 obtain ⟨a1',c1',a2',c2',A',C',hb',ho1,ho2,hr,z1,z2,hs,hf,hd1,hd2⟩:=hP
 have hEo:=hE.1
 have hcut:=wCut_le B
 obtain ⟨hro,hho,hne⟩:=rowE_of hat.o
 have hol:(rowE B.on B.os p.A1 p.C1 p.h1).map EO.ob=tkL B.on B.os:=rowE_obs _ _ _ _ _
 obtain ⟨hl2,he2⟩:=L2_len (L:=rowE B.on B.os p.A1 p.C1 p.h1) hok hol hEo hc
 have hx:(eoV B E).ob=wOb B v:=eoV_ob hEo
 have hwb:wOb B v=⟨E.ob.kind,E.ob.name,B.now+1,E.ob.born,E.ob.text,E.ob.ending,E.ob.hn,E.ob.hs⟩:=hx.symm
 have hhn:(wOb B v).hn=E.ob.hn:=by rw [hwb]
 have F:FrP (fun q=>q=K) w0 w':=(FrP.of_below hb).trans hf
 have z0:=hb.size
 have hL:∀ e,e ∈ rowE B.on B.os p.A1 p.C1 p.h1→∃ i,i<B.on∧e=⟨B.os i,p.A1 i,p.C1 i,p.h1 i⟩:=fun e he=>by
  obtain ⟨i,hi,rfl⟩:=mem_ixE he
  rw [rowE_len] at hi
  exact ⟨i,hi,rowE_at hi⟩
 have hho':HoldE w' (rowE B.on B.os p.A1 p.C1 p.h1):=hho.fr F (fun e he h0 q=>by have:=hho.lt e he h0;omega)
 have hsub:(L1 B v (rowE B.on B.os p.A1 p.C1 p.h1)).Sublist (rowE B.on B.os p.A1 p.C1 p.h1):=by
  unfold L1
  split
  ·exact List.eraseIdx_sublist _ _
  ·exact List.Sublist.refl _
 have hl1:HoldE w' (L1 B v (rowE B.on B.os p.A1 p.C1 p.h1)):=hho'.sub hsub
 -- the new object's holds
 have hEv:StrsOwn w' E.hb (E.hb+1) E.A E.ob.hn E.ob.hs∧(E.ob.hn≠0→E.hb<X.1.size)∧(∀ f,f ∈ L1 B v (rowE B.on B.os p.A1 p.C1 p.h1)→E.ob.hn≠0→f.ob.hn≠0→E.hb≠f.hb)∧(E.ob.hn≠0→blk1 p B E.hb∨w0.1.size≤E.hb):=by
  obtain ⟨_,_,h3⟩:=hE
  rcases h3 with ⟨q0,q1,q2,q3⟩|⟨q1,q2,q3,q4,q5⟩
  ·have hfi:fndIs B.os v.kind v.name B.on=true:=(code_key hc).resolve_right (by omega)
   have hpa:=place_at hok
   have hfn:=fnd_place hok hpa
   have hfo:plW B v<B.on∧kcI B.os v.kind v.name (plW B v)=0:=by
    by_cases q:plW B v<B.on∧kcI B.os v.kind v.name (plW B v)=0
    ·exact q
    ·rw [if_neg q] at hfn
     unfold fndIs at hfi
     rw [hfn] at hfi
     cases hfi
   rw [if_pos hfo] at hfn
   have hof:wOf B v=B.os (plW B v):=by unfold wOf fndOb;rw [hfn]
   have hfb:foB B v=true:=by unfold foB;simp [hfo.1,hfo.2]
   have hix:=rowE_at (x:=B.os) (A:=p.A1) (C:=p.C1) (hb:=p.h1) hfo.1
   rw [hix] at q1 q3
   have e1:E.ob.hn=(B.os (plW B v)).hn∧E.ob.hs=(B.os (plW B v)).hs:=by
    rw [hEo,←hof]
    rcases q0 with q|q<;>simp [opOb,q]
   have hm:(⟨B.os (plW B v),p.A1 (plW B v),p.C1 (plW B v),p.h1 (plW B v)⟩:EO) ∈ rowE B.on B.os p.A1 p.C1 p.h1:=by
    rw [←hix]
    exact ixE_mem (by rw [rowE_len];exact hfo.1)
   rw [q1,q3,e1.1,e1.2]
   refine ⟨hho'.hold _ hm,fun h0=>?_,fun f hf h0 h1=>?_,fun h0=>Or.inl (Or.inr ⟨plW B v,hfo.1,h0,rfl⟩)⟩
   ·have:=hat.o.hlt _ hfo.1 h0
    show p.h1 (plW B v)<_
    omega
   ·unfold L1 at hf
    rw [if_pos hfb] at hf
    obtain ⟨j,hj,hjn,rfl⟩:=List.mem_eraseIdx_iff_getElem.1 hf
    have hj':j<B.on:=by simpa [rowE_len] using hj
    rw [←ixE_lt hj,rowE_at hj'] at h1 ⊢
    exact fun q=>hjn (hat.o.ap.inj j _ hj' hfo.1 h1 h0 q.symm)
  ·refine ⟨q5.frP hf (fun h0=>⟨hKE h0,q4 h0⟩),q4,fun f hf h0 h1=>?_,fun _=>Or.inr q3⟩
   have:=hho.lt f (hsub.subset hf) h1
   omega
 obtain ⟨hE1,hE2,hE3,hE4⟩:=hEv
 have hchar:∀ e,e ∈ L2 B v (rowE B.on B.os p.A1 p.C1 p.h1) E→e.ob.hn≠0→(blk1 p B e.hb∨w0.1.size≤e.hb)∧e.hb<X.1.size:=fun e he h0=>by
  have hold:∀ f,f ∈ L1 B v (rowE B.on B.os p.A1 p.C1 p.h1)→f.ob.hn≠0→(blk1 p B f.hb∨w0.1.size≤f.hb)∧f.hb<X.1.size:=fun f hf h1=>by
   obtain ⟨i,hi,rfl⟩:=hL f (hsub.subset hf)
   have:=hat.o.hlt i hi h1
   exact ⟨Or.inl (Or.inr ⟨i,hi,h1,rfl⟩),by show p.h1 i<_;omega⟩
  unfold L2 at he
  split at he
  ·exact hold e he h0
  ·rcases List.mem_append.1 he with q|q
   ·exact hold e (List.mem_of_mem_take q) h0
   ·rcases List.mem_cons.1 q with q|q
    ·subst q
     exact ⟨hE4 h0,hE2 h0⟩
    ·exact hold e (List.mem_of_mem_drop q) h0
 have hz:=hf.size
 have hH2:HoldE w' (L2 B v (rowE B.on B.os p.A1 p.C1 p.h1) E):=by
  unfold L2
  split
  ·exact hl1
  ·refine HoldE.ins (e:=eoV B E) (by rw [List.take_append_drop];exact hl1) hE1 (fun h0=>?_) (fun f hf h0 h1=>hE3 f (by rwa [List.take_append_drop] at hf) h0 h1)
   have:=hE2 h0
   show E.hb<_
   omega
 obtain ⟨g1,hg1⟩:=own_at ho1
 obtain ⟨g2,hg2⟩:=own_at ho2
 have hg2:=hg2 (by omega)
 have nn:L2 B v (rowE B.on B.os p.A1 p.C1 p.h1) E≠[]→0<(L2 B v (rowE B.on B.os p.A1 p.C1 p.h1) E).length:=fun h=>List.length_pos_iff.2 h
 have hO:=obsAt_of (w:=w') (ad:=a1') (g:=g1) (L:=L2 B v (rowE B.on B.os p.A1 p.C1 p.h1) E) (fun h=>(hg1 (nn h)).1) (fun h=>by
  have q:=hg1 (nn h)
  have h9:=ho1
  rw [q.1] at h9
  exact rowE_own h9 q.2.2.2) hH2 (fun e he h0 q=>by
  have h1:=(hchar e he h0).2
  have hpos:0<(L2 B v (rowE B.on B.os p.A1 p.C1 p.h1) E).length:=List.length_pos_of_mem he
  have h2:=(hg1 hpos).2.2.1
  omega)
 have hO':=hO.congr hl2 he2
 -- the changes
 have hnw:([.int .i64 (B.now+1),.bool (wGone B v),.string E.ob.kind,.string E.ob.name,.int .i64 (B.now+1),.int .i64 E.ob.born,.string E.ob.text,.bool E.ob.ending,.slice A' E.ob.hn C']:List Value)=[.int .i64 (wCh B v).ver,.bool (wCh B v).gone,.string (wCh B v).ob.kind,.string (wCh B v).ob.name,.int .i64 (wCh B v).ob.ver,.int .i64 (wCh B v).ob.born,.string (wCh B v).ob.text,.bool (wCh B v).ob.ending,.slice A' (wCh B v).ob.hn C']:=by
  simp only [wCh,hwb]
 rw [hnw,newC_cells B c _ rfl hcut] at ho2
 have hr2:=hg2.1
 have ho2':=ho2
 rw [hr2] at ho2'
 have hC:ChsAt w' a2' g2 (wBk B v).hn (wBk B v).hs (fun i=>if i<B.hn-wCut B then p.A2 (i+wCut B) else A') (fun i=>if i<B.hn-wCut B then p.C2 (i+wCut B) else C') (fun i=>if i<B.hn-wCut B then p.h2 (i+wCut B) else hb'):=by
  have hm:(wBk B v).hn=B.hn-wCut B+1:=rfl
  have hsv:∀ i,(wBk B v).hs i=if i<B.hn-wCut B then B.hs (i+wCut B) else wCh B v:=fun i=>rfl
  refine ⟨fun _=>hr2,fun _=>⟨_,row_of_own ho2',fun i hi=>?_⟩,fun i hi=>?_,fun i hi h0=>?_,⟨fun i hi h0=>?_,fun i j hi hj h0 h1 q=>?_⟩⟩
  ·rw [hsv]
   rcases Nat.lt_or_ge i (B.hn-wCut B) with h|h
   ·simp only [if_pos h]
    exact newC_old h (hch _ (by omega))
   ·simp only [if_neg (Nat.not_lt.2 h)]
    obtain rfl:i=B.hn-wCut B:=by omega
    exact newC_new
  ·rw [hsv]
   rcases Nat.lt_or_ge i (B.hn-wCut B) with h|h
   ·simp only [if_pos h]
    exact (hat.h.hold _ (by omega)).frP F (fun h0=>by have:=hat.h.hlt (i+wCut B) (by omega) h0;exact ⟨by omega,this⟩)
   ·simp only [if_neg (Nat.not_lt.2 h)]
    have e1:(wCh B v).ob.hn=E.ob.hn∧(wCh B v).ob.hs=E.ob.hs:=by simp only [wCh,hwb];exact ⟨trivial,trivial⟩
    rw [e1.1,e1.2]
    exact hs
  ·rw [hsv] at h0
   rcases Nat.lt_or_ge i (B.hn-wCut B) with h|h
   ·simp only [if_pos h] at h0 ⊢
    exact Nat.lt_of_lt_of_le (hat.h.hlt _ (by omega) h0) F.size
   ·simp only [if_neg (Nat.not_lt.2 h)] at h0 ⊢
    exact z2 (by rw [←hhn];exact h0)
  ·simp only [hsv] at h0
   rcases Nat.lt_or_ge i (B.hn-wCut B) with h|h
   ·simp only [if_pos h] at h0 ⊢
    have:=hat.h.hlt (i+wCut B) (by omega) h0
    omega
   ·simp only [if_neg (Nat.not_lt.2 h)] at h0 ⊢
    have:=(hd2 (by rw [←hhn];exact h0)).2 g2 hg2.2.1
    omega
  ·simp only [hsv] at h0 h1
   rcases Nat.lt_or_ge i (B.hn-wCut B) with h|h
   ·rcases Nat.lt_or_ge j (B.hn-wCut B) with k|k
    ·simp only [if_pos h,if_pos k] at h0 h1 q
     have:=hat.h.ap.inj _ _ (by omega) (by omega) h0 h1 q
     omega
    ·simp only [if_pos h,if_neg (Nat.not_lt.2 k)] at h0 h1 q
     have:=hat.h.hlt (i+wCut B) (by omega) h0
     omega
   ·rcases Nat.lt_or_ge j (B.hn-wCut B) with k|k
    ·simp only [if_neg (Nat.not_lt.2 h),if_pos k] at h0 h1 q
     have:=hat.h.hlt (j+wCut B) (by omega) h1
     omega
    ·omega
 have hT:TisAt w' p.a3 p.g3 B.tn B.ts:=hat.t.fr F (fun k hk e=>by have:=hat.t.blt hk;omega)
 -- what the blocks are
 have c1:∀ k,blkH g1 (wBk B v).on (fun i=>((wBk B v).os i).hn) (fun i=>(ixE (L2 B v (rowE B.on B.os p.A1 p.C1 p.h1) E) i).hb) k→(k=g1∧0<(wBk B v).on)∨((blk1 p B k∨w0.1.size≤k)∧k<X.1.size):=fun k hk=>by
  rcases hk with ⟨h0,rfl⟩|⟨i,hi,h0,rfl⟩
  ·exact Or.inl ⟨rfl,h0⟩
  ·have h0':((wBk B v).os i).hn≠0:=h0
   rw [←he2 i hi] at h0'
   exact Or.inr (hchar _ (ixE_mem (by omega)) h0')
 have c2:∀ k,blkH g2 (wBk B v).hn (fun i=>((wBk B v).hs i).ob.hn) (fun i=>if i<B.hn-wCut B then p.h2 (i+wCut B) else hb') k→k=g2∨blk2 p B k∨(k=hb'∧E.ob.hn≠0):=fun k hk=>by
  rcases hk with ⟨_,rfl⟩|⟨i,hi,h0,rfl⟩
  ·exact Or.inl rfl
  ·have hsv:(wBk B v).hs i=if i<B.hn-wCut B then B.hs (i+wCut B) else wCh B v:=rfl
   have h0:((wBk B v).hs i).ob.hn≠0:=h0
   rw [hsv] at h0
   have hi':i<B.hn-wCut B+1:=hi
   rcases Nat.lt_or_ge i (B.hn-wCut B) with h|h
   ·simp only [if_pos h] at h0 ⊢
    exact Or.inr (Or.inl (Or.inr ⟨i+wCut B,by omega,h0,rfl⟩))
   ·simp only [if_neg (Nat.not_lt.2 h)] at h0 ⊢
    exact Or.inr (Or.inr ⟨trivial,by rw [←hhn];exact h0⟩)
 have g1X:0<(wBk B v).on→X.1.size≤g1∧Value.ownBlock (.slice a1' (L2 B v (rowE B.on B.os p.A1 p.C1 p.h1) E).length c1')=some g1:=fun h=>by
  have q:=hg1 (by omega)
  exact ⟨q.2.2.1,q.2.1⟩
 rw [hl2] at hr
 refine ⟨⟨a1',a2',p.a3,g1,g2,p.g3,_,_,_,_,_,_⟩,c1',c2',hr,⟨hO',hC,hT,fun k h1 h2=>?_,fun k h1 h2=>?_,fun k h1 h2=>?_⟩,fun k h=>?_⟩
 ·rcases c1 k h1 with ⟨rfl,q⟩|⟨q1,q2⟩
  ·have a:=g1X q
   rcases c2 _ h2 with r|r|⟨r,r0⟩
   ·have:=hd1 _ g2 a.2 hg2.2.1
    omega
   ·have:=hat.h.blt r
    omega
   ·have:=(hd2 r0).1 _ a.2
    omega
  ·rcases c2 _ h2 with r|r|⟨r,r0⟩
   ·have:=hg2.2.2.1
    omega
   ·rcases q1 with q1|q1
    ·exact hat.d12 k q1 r
    ·have:=hat.h.blt r
     omega
   ·omega
 ·have h3:0<B.tn∧k=p.g3:=h2
  have h4:=hat.t.blt h3
  rcases c1 k h1 with ⟨rfl,q⟩|⟨q1,q2⟩
  ·have a:=g1X q
   omega
  ·rcases q1 with q1|q1
   ·exact hat.d13 k q1 h3
   ·omega
 ·have h3:0<B.tn∧k=p.g3:=h2
  have h4:=hat.t.blt h3
  rcases c2 _ h1 with r|r|⟨r,r0⟩
  ·have:=hg2.2.2.1
   omega
  ·exact hat.d23 k r h3
  ·omega
 ·rcases h with h|h|h
  ·rcases c1 k h with ⟨rfl,q⟩|⟨q1,q2⟩
   ·have a:=g1X q
    exact Or.inr (by omega)
   ·rcases q1 with q1|q1
    ·exact Or.inl (Or.inl q1)
    ·exact Or.inr q1
  ·rcases c2 _ h with r|r|⟨r,r0⟩
   ·have:=hg2.2.2.1
    exact Or.inr (by omega)
   ·exact Or.inl (Or.inr (Or.inl r))
   ·exact Or.inr (by omega)
  ·exact Or.inl (Or.inr (Or.inr h))
end Go.Proofs.YtllmmkchokkaaaaGreatDoor
