import Derived.Test.YtokkbdlofbdljaaGreatGg
namespace Go.Proofs.YtokkbdlofbdljaaGreat
open Go.RowKit
set_option maxHeartbeats 8000000
theorem OX {c:Nat→Value} {n:Nat} {x:Nat→Ak} {A:Nat→Option Addr} {C:Nat→Nat} (h:∀ i,i<n→atAk c i (x i) (A i) (C i)):∀ j,j<n*2→(c j).oneCell'=true:=fun j hj=>by
 obtain ⟨a0,a1⟩:=h (j / 2) (by omega)
 rcases (show j=j / 2*2∨j=j / 2*2+1 by omega) with e|e
 ·rw [e,a0];rfl
 ·rw [e,a1];rfl
theorem AksAt.srcR {w:World} {ad:Option Addr} {g n:Nat} {x:Nat→Ak} {A:Nat→Option Addr} {C hb:Nat→Nat} (h:AksAt w ad g n x A C hb):∃ c,SrcRow w g (g+1) ad (n*2) c∧∀ i,i<n→atAk c i (x i) (A i) (C i):=by
 rcases Nat.eq_zero_or_pos n with h0|h0
 ·subst h0
  exact ⟨fun _=>.int .i64 0,⟨fun j hj=>absurd hj (by omega),fun _ _=>rfl⟩,fun i hi=>absurd hi (nlz _)⟩
 ·obtain ⟨c,r,hat⟩:=h.row h0
  exact ⟨c,⟨fun j hj=>⟨g,0,h.addr h0,lrf _,Nat.lt_succ_self _,by rw [Nat.zero_add];exact r.cell j hj⟩,OX hat⟩,hat⟩
theorem Ea {X:World} {vb:Nat} {ix:Int} (h0:X.cell? ⟨vb,0,none⟩=some (.int .i64 ix)) (h1:X.cell? ⟨vb,1,none⟩=some (.slice none 0 0)):SrcRow X vb (vb+1) (some ⟨vb,0,none⟩) (1*2) (akD ix):=⟨fun j hj=>by
 rcases (show j=0∨j=1 by omega) with rfl|rfl
 ·exact ⟨vb,0,rfl,lrf _,Nat.lt_succ_self _,h0⟩
 ·exact ⟨vb,0,rfl,lrf _,Nat.lt_succ_self _,h1⟩,fun j hj=>by
 rcases (show j=0∨j=1 by omega) with rfl|rfl<;>rfl⟩
abbrev ZC (r:Rc) (k:Nat) (ix:Int):Rc:=IZ r (r.an+1) (YF r.as_ k (ak0 ix))
abbrev JG (p:RcP) (k g' cap':Nat):RcP:=I1 p (some ⟨g',0,none⟩) cap' g' (YF p.AA k none) (YF p.AC k 0) (YF p.Ab k 0)
theorem PE {W:World} {B:Nat} {r:Rc} {p:RcP} {k g' cap':Nat} {ix:Int} (h:Bx W B (rcC r p.A)):Bx (W.setCell ⟨B,16,none⟩ (.slice (some ⟨g',0,none⟩) (r.an+1) cap')) B (rcC (ZC r k ix) (JG p k g' cap').A):=h.to (JM h.cell _)
theorem RcG.ackIns {w Y:World} {r:Rc} {p:RcP} {B:Nat} (h:RcG w r p) (hbx:Bx w B (rcC r p.A)) (hB:∀ q,rbs p r q→q≠B) (hb:Below w.1.size w Y) {k:Nat} (hk:k≤r.an) {g':Nat} (hg:w.1.size≤g') {c:Nat→Value} (hc:∀ i,i<r.an→atAk c i (r.as_ i) (p.AA i) (p.AC i)) (ix:Int) (cap':Nat) (hrow:RowF Y g' ((r.an+1)*2) (Jc c k 2 (akD ix))) :
  Bx (Y.setCell ⟨B,16,none⟩ (.slice (some ⟨g',0,none⟩) (r.an+1) cap')) B (rcC (ZC r k ix) (JG p k g' cap').A)∧RcG (Y.setCell ⟨B,16,none⟩ (.slice (some ⟨g',0,none⟩) (r.an+1) cap')) (ZC r k ix) (JG p k g' cap')∧(∀ q,rbs (JG p k g' cap') (ZC r k ix) q→rbs p r q∨w.1.size≤q)∧FrP (fun q=>q=B) w (Y.setCell ⟨B,16,none⟩ (.slice (some ⟨g',0,none⟩) (r.an+1) cap')):=by
 have F:FrP (fun q=>q=B) w (Y.setCell ⟨B,16,none⟩ (.slice (some ⟨g',0,none⟩) (r.an+1) cap')):=(FrP.of_below (P:=fun q=>q=B) hb).setCell (p:=⟨B,16,none⟩) rfl _
 have FY:FrP (fun q=>q=B) Y (Y.setCell ⟨B,16,none⟩ (.slice (some ⟨g',0,none⟩) (r.an+1) cap')):=(FrP.refl (fun q=>q=B) Y).setCell (p:=⟨B,16,none⟩) rfl _
 have o:=h.at_.o6.ins hb hk hg hc ix hrow
 have hBl:=hbx.lt
 have hblk:∀ q,blkH g' (r.an+1) (fun i=>(YF r.as_ k (ak0 ix) i).n) (YF p.Ab k 0) q→rb p r 6 q∨w.1.size≤q:=fun q hq=>by
  rcases hq with ⟨_,rfl⟩|⟨i,hi,h0,rfl⟩
  ·exact Or.inr hg
  ·refine Or.inl (Or.inr ?_)
   dsimp only at h0
   rcases Nat.lt_trichotomy i k with h1|h1|h1
   ·rw [YH h1] at h0 ⊢
    exact ⟨i,by omega,h0,rfl⟩
   ·subst h1
    rw [Yf] at h0
    exact absurd rfl h0
   ·rw [YI h1] at h0 ⊢
    exact ⟨i-1,by omega,h0,rfl⟩
 have o2:=o.fr FY (fun q hq e=>by
  subst e
  rcases hblk q hq with h1|h1
  ·exact hB q ⟨6,by omega,h1⟩ rfl
  ·omega)
 obtain ⟨g1,g2⟩:=h.acks F (fun j q hj hq e=>hB q ⟨j,by omega,hq⟩ e) cap' o2 hblk
 exact ⟨PE (hbx.below hb hBl),g1,g2,F⟩
abbrev Fe (r:Rc) (k m:Nat) (s:Nat→Int):Rc:=IZ r r.an (akS r.as_ k m s)
abbrev Yx (p:RcP) (k:Nat) (ad':Option Addr) (cap' b':Nat):RcP:=I1 p p.A.aa p.A.ac p.g6 (updF p.AA k ad') (updF p.AC k cap') (updF p.Ab k b')
theorem RcG.ackPut {w Y:World} {r:Rc} {p:RcP} {B:Nat} (h:RcG w r p) (hbx:Bx w B (rcC r p.A)) (hB:∀ q,rbs p r q→q≠B) (hb:Below w.1.size w Y) {k:Nat} (hk:k<r.an) {ad':Option Addr} {m cap' b':Nat} {s:Nat→Int} (hs:IntsOwn Y b' (b'+1) ad' m s) (hl:b'<Y.1.size) (hb':(b'=p.Ab k∧(r.as_ k).n≠0)∨w.1.size≤b') :
  Bx (Y.setCell ⟨p.g6,k*2+1,none⟩ (.slice ad' m cap')) B (rcC (Fe r k m s) (Yx p k ad' cap' b').A)∧RcG (Y.setCell ⟨p.g6,k*2+1,none⟩ (.slice ad' m cap')) (Fe r k m s) (Yx p k ad' cap' b')∧(∀ q,rbs (Yx p k ad' cap' b') (Fe r k m s) q→rbs p r q∨w.1.size≤q)∧FrP (fun q=>q=p.g6) w (Y.setCell ⟨p.g6,k*2+1,none⟩ (.slice ad' m cap')):=by
 have F:FrP (fun q=>q=p.g6) w (Y.setCell ⟨p.g6,k*2+1,none⟩ (.slice ad' m cap')):=(FrP.of_below (P:=fun q=>q=p.g6) hb).setCell (p:=⟨p.g6,k*2+1,none⟩) rfl _
 have o:=h.at_.o6.put hk hb (cap':=cap') hs hl hb'
 have h6:rb p r 6 p.g6:=Or.inl ⟨by omega,rfl⟩
 have hblk:∀ q,blkH p.g6 r.an (fun i=>(akS r.as_ k m s i).n) (updF p.Ab k b') q→rb p r 6 q∨w.1.size≤q:=fun q hq=>by
  rcases hq with ⟨_,rfl⟩|⟨i,hi,h0,rfl⟩
  ·exact Or.inl h6
  ·by_cases e:i=k
   ·subst e
    rw [Zm]
    rcases hb' with ⟨e1,e2⟩|e1
    ·exact Or.inl (Or.inr ⟨i,hi,e2,e1⟩)
    ·exact Or.inr e1
   ·rw [Zn _ _ e]
    have h0':(updF r.as_ k ⟨(r.as_ k).ix,m,s⟩ i).n≠0:=h0
    rw [Zn _ _ e] at h0'
    exact Or.inl (Or.inr ⟨i,hi,h0',rfl⟩)
 obtain ⟨g1,g2⟩:=h.acks F (fun j q hj hq e=>by
  subst e
  have:=h.at_.ap j 6 p.g6 (by omega) (by omega) hq h6
  omega) p.A.ac o hblk
 exact ⟨hbx.frP F (fun e=>hB p.g6 ⟨6,by omega,h6⟩ e.symm),g1,g2,F⟩
def ZM (r:Rc) (kn:Int) (a:Ak):Int:=if a.ix=kn+1∧r.of<2*(a.n:Int)∧(a.ix≤r.dk.n∧(r.dk.s kn.toNat).bal=r.bal) then a.ix else kn
def Xd (r:Rc):Nat→Int
 | 0=>r.dk.kn
 | i+1=>ZM r (Xd r i) (r.as_ i)
theorem KY (r:Rc) (h0:0≤r.dk.kn) (h1:r.dk.kn≤r.dk.n):∀ i,0≤Xd r i∧Xd r i≤r.dk.n
 | 0=>⟨h0,h1⟩
 | i+1=>by
  have:=KY r h0 h1 i
  show 0≤ZM _ _ _∧ZM _ _ _≤_
  unfold ZM
  split
  ·rename_i h
   exact ⟨by omega,h.2.2.1⟩
  ·exact this
abbrev knR (r:Rc) (kn:Int):Rc:=⟨r.num,r.of,r.up,r.sf,⟨r.dk.pr,kn,r.dk.n,r.dk.s⟩,r.hn,r.hs,r.wn,r.ws,r.ld,r.tr,r.bal,r.yn,r.ys,r.bn,r.bs,r.an,r.as_,r.hd⟩
theorem RcG.kn {w:World} {r:Rc} {p:RcP} (h:RcG w r p) (kn:Int):RcG w (knR r kn) p:=⟨⟨h.at_.o0,h.at_.o1,h.at_.o2,h.at_.o3,h.at_.o4,h.at_.o5,h.at_.o6,h.at_.lt,h.at_.ap⟩,⟨h.rm.dl,h.rm.d0,h.rm.dr,h.rm.hl,h.rm.h0,h.rm.hr⟩⟩
structure EK (r:Rc):Prop where
 an:r.an≤60
 ix:∀ i,i<r.an→0≤(r.as_ i).ix∧(r.as_ i).ix≤1000000
 asc:∀ i j,i<j→j<r.an→(r.as_ i).ix<(r.as_ j).ix
 fn:∀ i,i<r.an→(r.as_ i).n≤10
 fasc:∀ i,i<r.an→∀ a b,a<b→b<(r.as_ i).n→(r.as_ i).s a<(r.as_ i).s b
 k0:0≤r.dk.kn
 k1:r.dk.kn≤r.dk.n
 dn:r.dk.n≤60
def Jg (r:Rc) (ix:Int):Rc:=if XN r.an (fun i=>(r.as_ i).ix) ix then r else ZC r (rk (fun i=>(r.as_ i).ix) ix r.an) ix
def Zw (r:Rc) (k:Nat) (x:Int):Rc:=Fe r k (Zy (r.as_ k).n (r.as_ k).s x) (ZJ (r.as_ k).n (r.as_ k).s x)
def UJ (r:Rc):Rc:=knR r (Xd r r.an)
def Ya (r:Rc) (x ix:Int):Rc:=UJ (Zw (Jg r ix) (rk (fun i=>(r.as_ i).ix) ix r.an) x)
theorem Jt {P:Program} {f:FuncId} {args:Array Value} {w:World} {v:Value} (h:Calls P f args w fun e w'=>e=.returned v∧w'=w):Calls P f args w fun e w'=>e=.returned v∧Below w.1.size w w':=h.mono fun _ _ ⟨h1,h2⟩=>⟨h1,h2▸br _ _⟩
theorem Jo (n:Nat) (ad:Option Addr) (cap:Nat) (o:Int) (b:Bool) (hn:(n:Int)≤1048576) (hb:decide (o<2*(n:Int))=b) (w:World):Calls Tryz.prog 164 #[.slice ad n cap,.int .i64 o] w fun e w'=>e=.returned (.bool b)∧Below w.1.size w w':=by
 have h:=Po n ad cap o w hn
 rw [hb] at h
 exact Jt h
theorem Jz (d:Dk) (ad:Option Addr) (cap:Nat) (kn:Int) (bl:Int) (b:Bool) (h0:0≤kn) (h1:kn<2000000) (hb:(decide (kn.toNat<d.n)&&decide ((d.s kn.toNat).bal=bl))=b) (w:World) (lo hi:Nat) (hhi:hi≤w.1.size) (hc:SlsIn w lo hi ad d.n d.s):Calls Tryz.prog 156 #[dkV d ad cap,.int .i64 (kn+1),.int .i64 bl] w fun e w'=>e=.returned (.bool b)∧Below w.1.size w w':=by
 have h:=OO d ad cap kn.toNat bl w lo hi hhi (by omega) hc
 rw [hb,Int.toNat_of_nonneg h0] at h
 exact h
theorem SlsAt.isInG {w:World} {ad:Option Addr} {g n:Nat} {x:Nat→Sl} (h:SlsAt w ad g n x) (hl:n≠0→g<w.1.size):SlsIn w 0 w.1.size ad n x:=fun i hi=>by
 obtain ⟨c,r,a⟩:=h.row (by omega)
 obtain ⟨a0,a1⟩:=a i hi
 exact ⟨g,0,h.addr (by omega),zle _,hl (by omega),⟨by rw [Nat.zero_add,r.cell _ (by omega),a0],by rw [Nat.zero_add,r.cell _ (by omega),a1]⟩⟩
theorem Jl {r:Rc} {k:Nat} {x:Int} (h:∀ j,j<r.an→(r.as_ j).n≤10) (hk:k<r.an):∀ j,j<(Zw r k x).an→((Zw r k x).as_ j).n≤1000:=fun j hj'=>by
 have hj:j<r.an:=hj'
 show (updF r.as_ k _ j).n≤1000
 by_cases e:j=k
 ·subst e
  rw [Zm]
  have:=IX (r.as_ j).n (r.as_ j).s x
  have:=h j hj
  show Zy _ _ _≤_
  omega
 ·rw [Zn _ _ e]
  have:=h j hj
  omega
theorem apGk2 {P:Prop} (h:P:=by
  have hb8:Below wr.1.size wr w8:=(Zb wr _).trans (hw8.mono (by simp))
  have F8:=FX.out.trans (FrP.of_below hb8)
  have B8:=BX.out.below hb8 hBl
  have B9:=hid B8
  have F9:=hid F8
  clear F8 B8 hb8 hw8 FX BX
  go_wp2
  go_roundw
  case rel=>exact ⟨j+1,by omega,by go_num,F9.out,by rw [HS1.out];exact B9.out⟩
  case measure=>simp [intOf];omega):P:=h
theorem apGk1 {P:Prop} (h:P:=by
  go_wp2
  have y0:=Zc (W1:=(wr.alloc (.cells #[.int .i64 ((m:Int)+1),.slice (p.AA j) (r.as_ j).n (p.AC j)] 108))) (p:=⟨wr.1.size,0,none⟩) (v:=.int .i64 ((m:Int)+1)) (by simp) (by simp)
  have y1:=Zc (W1:=(wr.alloc (.cells #[.int .i64 ((m:Int)+1),.slice (p.AA j) (r.as_ j).n (p.AC j)] 108))) (p:=⟨wr.1.size,1,none⟩) (v:=.slice (p.AA j) (r.as_ j).n (p.AC j)) (by simp) (by simp)
  have b1:=Zc (W1:=(wr.alloc (.cells #[.int .i64 ((m:Int)+1),.slice (p.AA j) (r.as_ j).n (p.AC j)] 108))) (p:=⟨w.1.size,1,none⟩) (v:=.int .i64 r.of) ((World.cell?_alloc_past _ _ _ hBl).trans q1) (by simp;omega)
  have b7:=Zc (W1:=(wr.alloc (.cells #[.int .i64 ((m:Int)+1),.slice (p.AA j) (r.as_ j).n (p.AC j)] 108))) (p:=⟨w.1.size,7,none⟩) (v:=.int .i64 (m:Nat)) ((World.cell?_alloc_past _ _ _ hBl).trans q7) (by simp;omega)
  have b8:=Zc (W1:=(wr.alloc (.cells #[.int .i64 ((m:Int)+1),.slice (p.AA j) (r.as_ j).n (p.AC j)] 108))) (p:=⟨w.1.size,8,none⟩) (v:=.slice p.A.da r.dk.n p.A.dc) ((World.cell?_alloc_past _ _ _ hBl).trans q8) (by simp;omega)
  have b13:=Zc (W1:=(wr.alloc (.cells #[.int .i64 ((m:Int)+1),.slice (p.AA j) (r.as_ j).n (p.AC j)] 108))) (p:=⟨w.1.size,13,none⟩) (v:=.int .i64 r.bal) ((World.cell?_alloc_past _ _ _ hBl).trans q13) (by simp;omega)
  have hne:Nonempty (GW (wr.alloc (.cells #[.int .i64 ((m:Int)+1),.slice (p.AA j) (r.as_ j).n (p.AC j)] 108))):=⟨⟨_,br _ _⟩⟩
  refine Zf (by kernel_rfl) (by kernel_rfl) ?_
  repeat (go_big_quiet_step (fail))
  refine wpQuiet_nil ?_
  rintro w8 ⟨u,hu⟩
  have hw8:Below (wr.alloc (.cells #[.int .i64 ((m:Int)+1),.slice (p.AA j) (r.as_ j).n (p.AC j)] 108)).1.size (wr.alloc (.cells #[.int .i64 ((m:Int)+1),.slice (p.AA j) (r.as_ j).n (p.AC j)] 108)) w8:=hu▸u.prop
  clear hu u y0 y1 b1 b7 b8 b13 hne q0 q1 q2 q3 q4 q5 q6 q7 q8 q9 q10 q11 q12 q13 q14 q15 q16 q17 qf
  have hb8:Below wr.1.size wr w8:=(Zb wr _).trans (hw8.mono (by simp))
  have F8:=FX.out.trans (FrP.of_below hb8)
  have B8:=BX.out.below hb8 hBl
  have B9:=hid B8
  have F9:=hid F8
  clear F8 B8 hb8 hw8 FX BX
  go_wp2
  go_roundw
  case rel=>exact ⟨j+1,by omega,by go_num,F9.out,by rw [HS1.out];exact B9.out⟩
  case measure=>simp [intOf];omega):P:=h
set_option maxRecDepth 100000 in
theorem Jm (r:Rc) (p:RcP) (w:World) (hg:RcG w r p) (han:r.an≤61) (hfn:∀ j,j<r.an→(r.as_ j).n≤1000) (hk0':0≤r.dk.kn) (hk1':r.dk.kn≤r.dk.n) (hdn:r.dk.n≤60) :
  Calls Tryz.prog 131 #[rcV r p.A] w fun e w'=>e=.returned (rcV (UJ r) p.A)∧Below w.1.size w w':=by
 have HG:=hid hg
 have HLT:=hid hg.at_.lt
 have hN:=Bx.new2 w (rcC r p.A) (rcL 0 0 false).toArray 38 38
 have HN:=hid hN
 have hB0:Below w.1.size w ((w.alloc (.cells (rcC r p.A) 38)).alloc (.cells (rcL 0 0 false).toArray 38)):=(Zb _ _).alloc (by simp) _
 have HB0:=hid hB0
 have zW:w.1.size+1<((w.alloc (.cells (rcC r p.A) 38)).alloc (.cells (rcL 0 0 false).toArray 38)).1.size:=hN.2.lt
 have HROW:=hid (show ∀ wr,FrP (fun q=>q=w.1.size) ((w.alloc (.cells (rcC r p.A) 38)).alloc (.cells (rcL 0 0 false).toArray 38)) wr→∀ j,j<r.an→p.A.aa=some ⟨p.g6,0,none⟩∧wr.cell? ⟨p.g6,j*2,none⟩=some (.int .i64 (r.as_ j).ix)∧wr.cell? ⟨p.g6,j*2+1,none⟩=some (.slice (p.AA j) (r.as_ j).n (p.AC j)) from fun wr hf j hj=>by
  have o:=(HG.out.at_.o6.grow hB0).fr hf (fun q hq e=>by have:=HLT.out q ⟨6,by omega,hq⟩;omega)
  obtain ⟨c,rr,hat⟩:=o.row (by omega)
  obtain ⟨a0,a1⟩:=hat j hj
  exact ⟨o.addr (by omega),by rw [rr.cell _ (by omega),a0],by rw [rr.cell _ (by omega),a1]⟩)
 have HSLS:=hid (show ∀ wr,FrP (fun q=>q=w.1.size) ((w.alloc (.cells (rcC r p.A) 38)).alloc (.cells (rcL 0 0 false).toArray 38)) wr→∀ m,m<r.dk.n→p.A.da=some ⟨p.g1,0,none⟩∧p.g1<wr.1.size∧wr.cell? ⟨p.g1,m*2,none⟩=some (.int .i64 (r.dk.s m).bal) from fun wr hf m hm=>by
  have hl:=HLT.out p.g1 ⟨1,by omega,by omega,rfl⟩
  have o:=(HG.out.at_.o1.grow hB0).frP hf (fun h0=>⟨fun e=>by omega,by have:=hB0.size;omega⟩)
  obtain ⟨c,rr,hat⟩:=o.row (by omega)
  obtain ⟨a0,_⟩:=hat m hm
  exact ⟨o.addr (by omega),rr.lt,by rw [rr.cell _ (by omega),a0]⟩)
 have HKN:=hid (KY r hk0' hk1')
 clear hg hN hB0 HG
 go_enter Tryz.func131,Tryz.ntmps131
 go_wp2
 obtain ⟨W,hW⟩:∃ W,((w.alloc (.cells (rcC r p.A) 38)).alloc (.cells (rcL 0 0 false).toArray 38))=W:=⟨_,rfl⟩
 rw [hW] at HN HB0 zW HROW HSLS ⊢
 clear hW
 have BX3:=hid (show Bx W w.1.size (rcC (knR r (Xd r 0)) p.A) from HN.out.1)
 go_loopw [3] (fun i wr=>∃ j:Nat,j≤r.an∧i=.int .i64 j∧FrP (fun q=>q=w.1.size) W wr∧Bx wr w.1.size (rcC (knR r (Xd r j)) p.A)) (fun i _=>r.an-(intOf i).toNat)
 case atStart=>exact ⟨0,zle _,rfl,FrP.refl _ _,BX3.out⟩
 case round=>
  obtain ⟨j,hj,rfl,fx,bx⟩:=hrel
  have FX:=hid fx
  have BX:=hid bx
  have zr:=fx.size
  clear fx bx BX3
  by_cases hjn:j<r.an
  ·obtain ⟨eA,d0,d1⟩:=HROW.out wr FX.out j hjn
   obtain ⟨hk0,hk1⟩:=HKN.out j
   have hfj:=hfn j hjn
   have E16:=BX.out.cell 16
   have e16:wr.cell? ⟨w.1.size,16,none⟩=some (.slice (some ⟨p.g6,0,none⟩) r.an p.A.ac):=by rw [←eA];exact E16
   clear E16
   by_cases e1:(r.as_ j).ix=Xd r j+1
   ·by_cases e2:r.of<2*((r.as_ j).n:Int)
    ·by_cases e3:(r.as_ j).ix≤(r.dk.n:Int)
     ·by_cases e4:(r.dk.s (Xd r j).toNat).bal=r.bal
      ·skip
       have HS1:=hid (show Xd r (j+1)=(r.as_ j).ix by show ZM _ _ _=_;unfold ZM;rw [if_pos ⟨e1,e2,e3,e4⟩])
       obtain ⟨eD,hg1,s0⟩:=HSLS.out wr FX.out (Xd r j).toNat (by omega)
       obtain ⟨ix,hix⟩:∃ ix,(r.as_ j).ix=ix:=⟨_,rfl⟩
       obtain ⟨kn,hkn⟩:∃ kn,Xd r j=kn:=⟨_,rfl⟩
       rw [hkn] at hk0 hk1 BX s0
       rw [hix] at d0 HS1
       obtain ⟨m,rfl⟩:∃ m:Nat,kn=m:=⟨kn.toNat,by omega⟩
       have hix2:ix=(m:Int)+1:=by rw [←hix,←hkn];exact e1
       subst hix2
       have h3z:(m:Int)+1≤(r.dk.n:Int):=by rw [hix] at e3;exact e3
       simp only [Int.toNat_natCast] at s0
       rw [hkn,Int.toNat_natCast] at e4
       have hmn:m<r.dk.n:=by omega
       rw [e4] at s0
       obtain ⟨q0,q1,q2,q3,q4,q5,q6,q7,q8,q9,q10,q11,q12,q13,q14,q15,q16,q17⟩:=Ze BX.out.cell
       have qf:=BX.out.free
       have hBl:=BX.out.lt
       rw [eD] at q8
       clear hix hkn e3 e4
       go_wp2
       have y0:=Zc (W1:=(wr.alloc (.cells #[.int .i64 ((m:Int)+1),.slice (p.AA j) (r.as_ j).n (p.AC j)] 108))) (p:=⟨wr.1.size,0,none⟩) (v:=.int .i64 ((m:Int)+1)) (by simp) (by simp)
       have y1:=Zc (W1:=(wr.alloc (.cells #[.int .i64 ((m:Int)+1),.slice (p.AA j) (r.as_ j).n (p.AC j)] 108))) (p:=⟨wr.1.size,1,none⟩) (v:=.slice (p.AA j) (r.as_ j).n (p.AC j)) (by simp) (by simp)
       have b1:=Zc (W1:=(wr.alloc (.cells #[.int .i64 ((m:Int)+1),.slice (p.AA j) (r.as_ j).n (p.AC j)] 108))) (p:=⟨w.1.size,1,none⟩) (v:=.int .i64 r.of) ((World.cell?_alloc_past _ _ _ hBl).trans q1) (by simp;omega)
       have b7:=Zc (W1:=(wr.alloc (.cells #[.int .i64 ((m:Int)+1),.slice (p.AA j) (r.as_ j).n (p.AC j)] 108))) (p:=⟨w.1.size,7,none⟩) (v:=.int .i64 (m:Nat)) ((World.cell?_alloc_past _ _ _ hBl).trans q7) (by simp;omega)
       have b8:=Zc (W1:=(wr.alloc (.cells #[.int .i64 ((m:Int)+1),.slice (p.AA j) (r.as_ j).n (p.AC j)] 108))) (p:=⟨w.1.size,8,none⟩) (v:=.slice (some ⟨p.g1,0,none⟩) r.dk.n p.A.dc) ((World.cell?_alloc_past _ _ _ hBl).trans q8) (by simp;omega)
       have b13:=Zc (W1:=(wr.alloc (.cells #[.int .i64 ((m:Int)+1),.slice (p.AA j) (r.as_ j).n (p.AC j)] 108))) (p:=⟨w.1.size,13,none⟩) (v:=.int .i64 r.bal) ((World.cell?_alloc_past _ _ _ hBl).trans q13) (by simp;omega)
       have bs:=Zc (W1:=(wr.alloc (.cells #[.int .i64 ((m:Int)+1),.slice (p.AA j) (r.as_ j).n (p.AC j)] 108))) (p:=⟨p.g1,m*2,none⟩) (v:=.int .i64 r.bal) ((World.cell?_alloc_past _ _ _ hg1).trans s0) (by simp;omega)
       have hne:Nonempty (GW (wr.alloc (.cells #[.int .i64 ((m:Int)+1),.slice (p.AA j) (r.as_ j).n (p.AC j)] 108))):=⟨⟨_,br _ _⟩⟩
       refine Zf (by kernel_rfl) (by kernel_rfl) ?_
       repeat (go_big_quiet_step (fail))
       refine wpQuiet_nil ?_
       rintro w8 ⟨u,hu⟩
       have hw8:Below (wr.alloc (.cells #[.int .i64 ((m:Int)+1),.slice (p.AA j) (r.as_ j).n (p.AC j)] 108)).1.size (wr.alloc (.cells #[.int .i64 ((m:Int)+1),.slice (p.AA j) (r.as_ j).n (p.AC j)] 108)) w8:=hu▸u.prop
       clear hu u y0 y1 b1 b7 b8 b13 hne q0 q1 q2 q3 q4 q5 q6 q7 q8 q9 q10 q11 q12 q13 q14 q15 q16 q17 qf bs
       have hb8:Below wr.1.size wr w8:=(Zb wr _).trans (hw8.mono (by simp))
       have F8:=FX.out.trans (FrP.of_below hb8)
       have B8:=BX.out.below hb8 hBl
       have g0:w8.cell? ⟨wr.1.size,0,none⟩=some (.int .i64 ((m:Int)+1)):=(hw8.cell (p:=⟨wr.1.size,0,none⟩) (by simp)).trans (by simp)
       have gq:=Ze B8.cell
       obtain ⟨_,_,_,_,_,_,_,g7,_⟩:=gq
       have gf:=B8.free
       have B9:=hid (B8.to (Jp B8.cell (.int .i64 ((m:Int)+1))))
       have F9:=hid (F8.setCell (p:=⟨w.1.size,7,none⟩) rfl (.int .i64 ((m:Int)+1)))
       clear F8 B8 hb8 hw8 FX BX
       go_wp2
       go_roundw
       case rel=>exact ⟨j+1,by omega,by go_num,F9.out,by rw [HS1.out];exact B9.out⟩
       case measure=>simp [intOf];omega
      ·skip
       have HS1:=hid (show Xd r (j+1)=Xd r j by show ZM _ _ _=_;unfold ZM;rw [if_neg (fun h=>e4 h.2.2.2)])
       obtain ⟨eD,hg1,s0⟩:=HSLS.out wr FX.out (Xd r j).toNat (by omega)
       obtain ⟨ix,hix⟩:∃ ix,(r.as_ j).ix=ix:=⟨_,rfl⟩
       obtain ⟨kn,hkn⟩:∃ kn,Xd r j=kn:=⟨_,rfl⟩
       rw [hkn] at hk0 hk1 BX HS1 s0
       rw [hix] at d0
       obtain ⟨m,rfl⟩:∃ m:Nat,kn=m:=⟨kn.toNat,by omega⟩
       have hix2:ix=(m:Int)+1:=by rw [←hix,←hkn];exact e1
       subst hix2
       have h3z:(m:Int)+1≤(r.dk.n:Int):=by rw [hix] at e3;exact e3
       simp only [Int.toNat_natCast] at s0
       rw [hkn,Int.toNat_natCast] at e4
       have hmn:m<r.dk.n:=by omega
       obtain ⟨bl,hbl⟩:∃ bl,(r.dk.s m).bal=bl:=⟨_,rfl⟩
       rw [hbl] at s0 e4
       have h4z:(bl==r.bal)=false:=by simp;exact e4
       obtain ⟨q0,q1,q2,q3,q4,q5,q6,q7,q8,q9,q10,q11,q12,q13,q14,q15,q16,q17⟩:=Ze BX.out.cell
       have qf:=BX.out.free
       have hBl:=BX.out.lt
       rw [eD] at q8
       clear hix hkn e3 e4
       go_wp2
       have y0:=Zc (W1:=(wr.alloc (.cells #[.int .i64 ((m:Int)+1),.slice (p.AA j) (r.as_ j).n (p.AC j)] 108))) (p:=⟨wr.1.size,0,none⟩) (v:=.int .i64 ((m:Int)+1)) (by simp) (by simp)
       have y1:=Zc (W1:=(wr.alloc (.cells #[.int .i64 ((m:Int)+1),.slice (p.AA j) (r.as_ j).n (p.AC j)] 108))) (p:=⟨wr.1.size,1,none⟩) (v:=.slice (p.AA j) (r.as_ j).n (p.AC j)) (by simp) (by simp)
       have b1:=Zc (W1:=(wr.alloc (.cells #[.int .i64 ((m:Int)+1),.slice (p.AA j) (r.as_ j).n (p.AC j)] 108))) (p:=⟨w.1.size,1,none⟩) (v:=.int .i64 r.of) ((World.cell?_alloc_past _ _ _ hBl).trans q1) (by simp;omega)
       have b7:=Zc (W1:=(wr.alloc (.cells #[.int .i64 ((m:Int)+1),.slice (p.AA j) (r.as_ j).n (p.AC j)] 108))) (p:=⟨w.1.size,7,none⟩) (v:=.int .i64 (m:Nat)) ((World.cell?_alloc_past _ _ _ hBl).trans q7) (by simp;omega)
       have b8:=Zc (W1:=(wr.alloc (.cells #[.int .i64 ((m:Int)+1),.slice (p.AA j) (r.as_ j).n (p.AC j)] 108))) (p:=⟨w.1.size,8,none⟩) (v:=.slice (some ⟨p.g1,0,none⟩) r.dk.n p.A.dc) ((World.cell?_alloc_past _ _ _ hBl).trans q8) (by simp;omega)
       have b13:=Zc (W1:=(wr.alloc (.cells #[.int .i64 ((m:Int)+1),.slice (p.AA j) (r.as_ j).n (p.AC j)] 108))) (p:=⟨w.1.size,13,none⟩) (v:=.int .i64 r.bal) ((World.cell?_alloc_past _ _ _ hBl).trans q13) (by simp;omega)
       have bs:=Zc (W1:=(wr.alloc (.cells #[.int .i64 ((m:Int)+1),.slice (p.AA j) (r.as_ j).n (p.AC j)] 108))) (p:=⟨p.g1,m*2,none⟩) (v:=.int .i64 bl) ((World.cell?_alloc_past _ _ _ hg1).trans s0) (by simp;omega)
       have hne:Nonempty (GW (wr.alloc (.cells #[.int .i64 ((m:Int)+1),.slice (p.AA j) (r.as_ j).n (p.AC j)] 108))):=⟨⟨_,br _ _⟩⟩
       refine Zf (by kernel_rfl) (by kernel_rfl) ?_
       repeat (go_big_quiet_step (fail))
       refine wpQuiet_nil ?_
       rintro w8 ⟨u,hu⟩
       have hw8:Below (wr.alloc (.cells #[.int .i64 ((m:Int)+1),.slice (p.AA j) (r.as_ j).n (p.AC j)] 108)).1.size (wr.alloc (.cells #[.int .i64 ((m:Int)+1),.slice (p.AA j) (r.as_ j).n (p.AC j)] 108)) w8:=hu▸u.prop
       clear hu u y0 y1 b1 b7 b8 b13 hne q0 q1 q2 q3 q4 q5 q6 q7 q8 q9 q10 q11 q12 q13 q14 q15 q16 q17 qf bs
       exact apGk2
     ·skip
      have HS1:=hid (show Xd r (j+1)=Xd r j by show ZM _ _ _=_;unfold ZM;rw [if_neg (fun h=>e3 h.2.2.1)])
      obtain ⟨ix,hix⟩:∃ ix,(r.as_ j).ix=ix:=⟨_,rfl⟩
      obtain ⟨kn,hkn⟩:∃ kn,Xd r j=kn:=⟨_,rfl⟩
      rw [hkn] at hk0 hk1 BX HS1
      rw [hix] at d0
      obtain ⟨m,rfl⟩:∃ m:Nat,kn=m:=⟨kn.toNat,by omega⟩
      have hix2:ix=(m:Int)+1:=by rw [←hix,←hkn];exact e1
      subst hix2
      have h3z:decide ((m:Int)+1≤(r.dk.n:Int))=false:=decide_eq_false (by rw [hix] at e3;exact e3)
      obtain ⟨q0,q1,q2,q3,q4,q5,q6,q7,q8,q9,q10,q11,q12,q13,q14,q15,q16,q17⟩:=Ze BX.out.cell
      have qf:=BX.out.free
      have hBl:=BX.out.lt
      clear hix hkn e3
      exact apGk1
    ·skip
     have HS1:=hid (show Xd r (j+1)=Xd r j by show ZM _ _ _=_;unfold ZM;rw [if_neg (fun h=>e2 h.2.1)])
     obtain ⟨ix,hix⟩:∃ ix,(r.as_ j).ix=ix:=⟨_,rfl⟩
     obtain ⟨kn,hkn⟩:∃ kn,Xd r j=kn:=⟨_,rfl⟩
     rw [hkn] at hk0 hk1 BX HS1
     rw [hix] at d0
     obtain ⟨m,rfl⟩:∃ m:Nat,kn=m:=⟨kn.toNat,by omega⟩
     have hix2:ix=(m:Int)+1:=by rw [←hix,←hkn];exact e1
     subst hix2
     have h2z:decide (r.of<2*((r.as_ j).n:Int))=false:=decide_eq_false e2
     obtain ⟨q0,q1,q2,q3,q4,q5,q6,q7,q8,q9,q10,q11,q12,q13,q14,q15,q16,q17⟩:=Ze BX.out.cell
     have qf:=BX.out.free
     have hBl:=BX.out.lt
     clear hix hkn e2
     exact apGk1
   ·skip
    have HS1:=hid (show Xd r (j+1)=Xd r j by show ZM _ _ _=_;unfold ZM;rw [if_neg (fun h=>e1 h.1)])
    obtain ⟨ix,hix⟩:∃ ix,(r.as_ j).ix=ix:=⟨_,rfl⟩
    obtain ⟨kn,hkn⟩:∃ kn,Xd r j=kn:=⟨_,rfl⟩
    rw [hkn] at hk0 hk1 BX HS1
    rw [hix] at d0
    obtain ⟨m,rfl⟩:∃ m:Nat,kn=m:=⟨kn.toNat,by omega⟩
    have hz:(ix==(m:Int)+1)=false:=by rw [←hix,←hkn];simp;exact e1
    obtain ⟨q0,q1,q2,q3,q4,q5,q6,q7,q8,q9,q10,q11,q12,q13,q14,q15,q16,q17⟩:=Ze BX.out.cell
    have qf:=BX.out.free
    have hBl:=BX.out.lt
    clear hix hkn e1
    go_wp2
    have y0:=Zc (W1:=(wr.alloc (.cells #[.int .i64 ix,.slice (p.AA j) (r.as_ j).n (p.AC j)] 108))) (p:=⟨wr.1.size,0,none⟩) (v:=.int .i64 ix) (by simp) (by simp)
    have y1:=Zc (W1:=(wr.alloc (.cells #[.int .i64 ix,.slice (p.AA j) (r.as_ j).n (p.AC j)] 108))) (p:=⟨wr.1.size,1,none⟩) (v:=.slice (p.AA j) (r.as_ j).n (p.AC j)) (by simp) (by simp)
    have b1:=Zc (W1:=(wr.alloc (.cells #[.int .i64 ix,.slice (p.AA j) (r.as_ j).n (p.AC j)] 108))) (p:=⟨w.1.size,1,none⟩) (v:=.int .i64 r.of) ((World.cell?_alloc_past _ _ _ hBl).trans q1) (by simp;omega)
    have b7:=Zc (W1:=(wr.alloc (.cells #[.int .i64 ix,.slice (p.AA j) (r.as_ j).n (p.AC j)] 108))) (p:=⟨w.1.size,7,none⟩) (v:=.int .i64 (m:Nat)) ((World.cell?_alloc_past _ _ _ hBl).trans q7) (by simp;omega)
    have b8:=Zc (W1:=(wr.alloc (.cells #[.int .i64 ix,.slice (p.AA j) (r.as_ j).n (p.AC j)] 108))) (p:=⟨w.1.size,8,none⟩) (v:=.slice p.A.da r.dk.n p.A.dc) ((World.cell?_alloc_past _ _ _ hBl).trans q8) (by simp;omega)
    have b13:=Zc (W1:=(wr.alloc (.cells #[.int .i64 ix,.slice (p.AA j) (r.as_ j).n (p.AC j)] 108))) (p:=⟨w.1.size,13,none⟩) (v:=.int .i64 r.bal) ((World.cell?_alloc_past _ _ _ hBl).trans q13) (by simp;omega)
    have hne:Nonempty (GW (wr.alloc (.cells #[.int .i64 ix,.slice (p.AA j) (r.as_ j).n (p.AC j)] 108))):=⟨⟨_,br _ _⟩⟩
    refine Zf (by kernel_rfl) (by kernel_rfl) ?_
    repeat (go_big_quiet_step (fail))
    refine wpQuiet_nil ?_
    rintro w8 ⟨u,hu⟩
    have hw8:Below (wr.alloc (.cells #[.int .i64 ix,.slice (p.AA j) (r.as_ j).n (p.AC j)] 108)).1.size (wr.alloc (.cells #[.int .i64 ix,.slice (p.AA j) (r.as_ j).n (p.AC j)] 108)) w8:=hu▸u.prop
    clear hu u y0 y1 b1 b7 b8 b13 hne q0 q1 q2 q3 q4 q5 q6 q7 q8 q9 q10 q11 q12 q13 q14 q15 q16 q17 qf
    exact apGk2
  ·obtain rfl:j=r.an:=by omega
   have F9:=FX.out
   have B9:=hid BX.out
   have Z9:=hid (HN.out.2.frP F9 (by omega))
   have hBW:=HB0.out.trans (F9.below (B:=w.1.size) (fun q hq e=>by omega) HB0.out.size)
   obtain ⟨q0,q1,q2,q3,q4,q5,q6,q7,q8,q9,q10,q11,q12,q13,q14,q15,q16,q17⟩:=Ze B9.out.cell
   clear q0 q1 q2 q3 q4 q5 q6 q7 q8 q9 q10 q11 q12 q13 q14 q15 q17
   clear FX BX F9
   go_wp2_with (first|((with_reducible show wpList _ _ _ (⟨some 60,Op.load 38 _,_,_,_,_⟩::_) _ _);go_must (clear q16;refine LD38 (rcC (knR r (Xd r r.an)) p.A).toList B9.out.cell ?_))|((with_reducible show wpList _ _ _ (⟨none,Op.store 38 _ _,_,_,_,_⟩::_) _ _);go_must (refine Zd rfl 38 _ _ rfl (w.1.size+1) (rcC (knR r (Xd r r.an)) p.A).toList rfl rfl Z9.out rfl Tryz.sz38 (by simp [Value.oneCell']) ?_;intro V2 hbv hfv hsv;have HBV2:=hid hbv;have HFV2:=hid hfv;clear hbv hfv hsv)))
   refine bodyPost_ret (v:=.agg (rcC (knR r (Xd r r.an)) p.A)) (Zv rfl _ _ (w.1.size+1) (rcC (knR r (Xd r r.an)) p.A).toList _ rfl (Holds.range (cs:=(rcC (knR r (Xd r r.an)) p.A).toList) HBV2.out.cell) Tryz.underlying38 rfl Tryz.sz38) rfl ⟨rfl,?_⟩
   exact hBW.trans (HFV2.out.below (Nat.le_succ _) hBW.size)
theorem EX {W:World} {ad:Option Addr} {n cap k:Nat} {c:Nat→Value} {lo hi:Nat} (hs:SrcRow W lo hi ad (n*2) c) (hkn:k≤n) (hcap:n≤cap):SrcRow W lo hi (if cap=k then ad else Option.map (fun x=>x.add (k*2)) ad) ((n-k)*2) (fun j=>c (k*2+j)):=by
 refine ⟨fun j hj=>?_,fun j hj=>hs.one _ (by omega)⟩
 have h1:¬cap=k:=by omega
 obtain ⟨b,off,e1,e2,e3,e4⟩:=hs.at_ (k*2+j) (by omega)
 rw [if_neg h1]
 subst e1
 exact ⟨b,off+k*2,by simp [Addr.add],e2,e3,by rw [Nat.add_assoc];exact e4⟩
def ackPV (S:Nat) (ad:Option Addr) (n cap k:Nat) (ix:Int) (c:Nat→Value) (lo hi:Nat) (W:World) (i:Nat) (v:Value):Prop:=
 match i with
 | 0=>∃ b,v=.slice (some ⟨b,0,none⟩) 0 0
 | 1=>v=.pointer (some ⟨S,16,none⟩)
 | 2=>v=.slice ad n cap
 | 3=>v=.int .i64 (k:Nat)
 | 4=>v=.slice ad k cap
 | 6=>v=.int .i64 ix
 | 7=>v=.agg #[.int .i64 ix,.slice none 0 0]
 | 10=>v=.pointer (some ⟨S,16,none⟩)
 | 11=>v=.slice ad n cap
 | 12=>v=.int .i64 (k:Nat)
 | 13=>∃ ad2 cap2,v=.slice ad2 (n-k) cap2∧SrcRow W lo hi ad2 ((n-k)*2) (fun j=>c (k*2+j))
 | 15=>v=.pointer (some ⟨S,16,none⟩)
 | _=>True
set_option maxRecDepth 100000 in
theorem Ee (p0 p2 p4 p5 p6 p8 p9 ze zc za zd zi zj zg zh zn zm zo zp zq yb yf ye z9 yd z8 z0 zu zy zt yg yi yj yh yk ym yo yp yq yv yw xx xy xc yu yx xb xd xg xk xe xh w0 w1 w2 w3 w4 w5 w6 w7 w8 w9 w10 w11 w12 w13 w14 w15:Value) (S:Nat) (ad:Option Addr) (n cap k:Nat) (ix:Int) (c:Nat→Value) (lo hi:Nat) (W:World) (hkn:k≤n) (hn:n≤1000) (hcap:n≤cap) (hhi:hi≤W.1.size) (hs:SrcRow W lo hi ad (n*2) c) (h16:W.cell? ⟨S,16,none⟩=some (.slice ad n cap)) (hf16:W.frozen? ⟨S,16,none⟩=false) (hS:S<W.1.size) (Q:Exit→Act→World→Prop)
  (hQ:∀ (t:Nat→Value) (v3:Value) (Y:World),RwV W (k+1+(n-k)) 2 (XD (XD c (k*2) (akD ix)) ((k+1)*2) (fun j=>c (k*2+j))) v3 Y→Below W.1.size W Y→Q .normal ⟨#[p0,.int .i64 ix,p2,.pointer (some ⟨S,0,none⟩),p4,p5,p6,.int .i64 (k:Nat),p8,p9,ze,zc,za,zd,zi,zj,zg,zh,zn,zm,zo,zp,zq,yb,yf,ye,z9,yd,z8,z0,zu,zy,zt,yg,yi,yj,yh,yk,ym,yo,t 0,t 1,t 2,t 3,t 4,t 5,t 6,t 7,t 8,t 9,t 10,t 11,t 12,t 13,t 14,t 15,yp,yq,yv,yw,xx,xy,xc,yu,yx,xb,xd,xg,xk,xe,xh],[]⟩ (Y.setCell ⟨S,16,none⟩ v3)) :
  Code.wp Tryz.prog (Code.region 5 #[⟨some 40,.buildSlice 36 0 #[],36,GD,#[],none⟩,⟨some 41,.fieldAddr 38 (.tmp 3) 12,0,GD,#[],none⟩,⟨some 42,.load 36 (.tmp 41),36,GD,#[⟨1,.data⟩],none⟩,⟨some 43,.move (.tmp 7),3,GD,#[],none⟩,⟨some 44,.slice 36 (.tmp 42) none (some (.tmp 43)) none,36,GD,#[⟨2,.data⟩,⟨3,.data⟩],none⟩,⟨some 45,.call ⟨.builtin .append,#[.tmp 40,.tmp 44],#[36,36]⟩,36,GD,#[⟨0,.data⟩,⟨4,.data⟩],none⟩,⟨some 46,.move (.tmp 1),3,GD,#[],none⟩,⟨some 47,.build 108 #[(0,.tmp 46)],108,GD,#[⟨6,.data⟩],none⟩,⟨some 48,.buildSlice 36 1 #[(0,.tmp 47)],36,GD,#[⟨7,.data⟩],none⟩,⟨some 49,.call ⟨.builtin .append,#[.tmp 45,.tmp 48],#[36,36]⟩,36,GD,#[⟨5,.data⟩,⟨8,.data⟩,⟨5,.chain⟩],none⟩,⟨some 50,.fieldAddr 38 (.tmp 3) 12,0,GD,#[],none⟩,⟨some 51,.load 36 (.tmp 50),36,GD,#[⟨10,.data⟩],none⟩,⟨some 52,.move (.tmp 7),3,GD,#[],none⟩,⟨some 53,.slice 36 (.tmp 51) (some (.tmp 52)) none none,36,GD,#[⟨11,.data⟩,⟨12,.data⟩],none⟩,⟨some 54,.call ⟨.builtin .append,#[.tmp 49,.tmp 53],#[36,36]⟩,36,GD,#[⟨9,.data⟩,⟨13,.data⟩,⟨9,.chain⟩],none⟩,⟨some 55,.fieldAddr 38 (.tmp 3) 12,0,GD,#[⟨0,.phase⟩,⟨1,.phase⟩,⟨2,.phase⟩,⟨3,.phase⟩,⟨4,.phase⟩,⟨5,.phase⟩,⟨6,.phase⟩,⟨7,.phase⟩,⟨8,.phase⟩,⟨9,.phase⟩,⟨10,.phase⟩,⟨11,.phase⟩,⟨12,.phase⟩,⟨13,.phase⟩,⟨14,.phase⟩],none⟩,⟨none,.store 36 (.tmp 55) (.tmp 54),0,GD,#[⟨15,.data⟩,⟨14,.data⟩,⟨14,.chain⟩,⟨0,.phase⟩,⟨1,.phase⟩,⟨2,.phase⟩,⟨3,.phase⟩,⟨4,.phase⟩,⟨5,.phase⟩,⟨6,.phase⟩,⟨7,.phase⟩,⟨8,.phase⟩,⟨9,.phase⟩,⟨10,.phase⟩,⟨11,.phase⟩,⟨12,.phase⟩,⟨13,.phase⟩,⟨14,.phase⟩],none⟩] true) Q ⟨#[p0,.int .i64 ix,p2,.pointer (some ⟨S,0,none⟩),p4,p5,p6,.int .i64 (k:Nat),p8,p9,ze,zc,za,zd,zi,zj,zg,zh,zn,zm,zo,zp,zq,yb,yf,ye,z9,yd,z8,z0,zu,zy,zt,yg,yi,yj,yh,yk,ym,yo,w0,w1,w2,w3,w4,w5,w6,w7,w8,w9,w10,w11,w12,w13,w14,w15,yp,yq,yv,yw,xx,xy,xc,yu,yx,xb,xd,xg,xk,xe,xh],[]⟩ W:=by
 refine PD (by kernel_rfl) 16 5 8 9 14 (by decide) (Wt rfl) (Wt rfl) (Wt rfl) (fun t:Nat→Value=>#[p0,.int .i64 ix,p2,.pointer (some ⟨S,0,none⟩),p4,p5,p6,.int .i64 (k:Nat),p8,p9,ze,zc,za,zd,zi,zj,zg,zh,zn,zm,zo,zp,zq,yb,yf,ye,z9,yd,z8,z0,zu,zy,zt,yg,yi,yj,yh,yk,ym,yo,t 0,t 1,t 2,t 3,t 4,t 5,t 6,t 7,t 8,t 9,t 10,t 11,t 12,t 13,t 14,t 15,yp,yq,yv,yw,xx,xy,xc,yu,yx,xb,xd,xg,xk,xe,xh]) (fun i=>match i with|0=>w0|1=>w1|2=>w2|3=>w3|4=>w4|5=>w5|6=>w6|7=>w7|8=>w8|9=>w9|10=>w10|11=>w11|12=>w12|13=>w13|14=>w14|_=>w15) (ackPV S ad n cap k ix c lo hi W)
  (RwV W k 2 c) (ElV W 2 (akD ix)) (RwV W (k+1) 2 (XD c (k*2) (akD ix))) (RwV W (k+1+(n-k)) 2 (XD (XD c (k*2) (akD ix)) ((k+1)*2) (fun j=>c (k*2+j)))) (fun ac X=>∃ (t:Nat→Value) (v3:Value) (Y:World),ac=⟨#[p0,.int .i64 ix,p2,.pointer (some ⟨S,0,none⟩),p4,p5,p6,.int .i64 (k:Nat),p8,p9,ze,zc,za,zd,zi,zj,zg,zh,zn,zm,zo,zp,zq,yb,yf,ye,z9,yd,z8,z0,zu,zy,zt,yg,yi,yj,yh,yk,ym,yo,t 0,t 1,t 2,t 3,t 4,t 5,t 6,t 7,t 8,t 9,t 10,t 11,t 12,t 13,t 14,t 15,yp,yq,yv,yw,xx,xy,xc,yu,yx,xb,xd,xg,xk,xe,xh],[]⟩∧X=Y.setCell ⟨S,16,none⟩ v3∧RwV W (k+1+(n-k)) 2 (XD (XD c (k*2) (akD ix)) ((k+1)*2) (fun j=>c (k*2+j))) v3 Y∧Below W.1.size W Y) (by kernel_rfl) (by kernel_rfl) (by kernel_rfl) (fun _ _ _ h hb=>h.grow hb) (fun _ _ _ h hb=>h.grow hb) (fun _ _ _ h hb=>h.grow hb) (fun _ _ _ h hb=>h.grow hb) (fun _ _ _ _ h hk=>h.lt hk) (fun _ _ _ h=>h.lt) rfl ?_ ?_ ?_ ?_ ?_ ?_ ?_
 ·intro i hi1 h4 h6 h7 h11 t X K hb hg hK
  rcases (show i=0∨i=1∨i=2∨i=3∨i=4∨i=6∨i=7∨i=10∨i=11∨i=12∨i=13∨i=15 by omega) with rfl|rfl|rfl|rfl|rfl|rfl|rfl|rfl|rfl|rfl|rfl|rfl
  ·have h:=hK (.slice (some ⟨X.1.size,0,none⟩) 0 0) (X.alloc (.cells #[] 108)) ⟨_,rfl⟩ (Zb _ _)
   refine Zi rfl rfl ?_
   clear hK hg
   go_simp
   simpa [updT] using h
  ·exact sg
  ·have e1:t 1=.pointer (some ⟨S,16,none⟩):=hg 1 (Wt rfl)
   have f1:=(hb.cell (p:=⟨S,16,none⟩) hS).trans h16
   have h:=hK _ X rfl (br _ _)
   refine Zi rfl rfl ?_
   clear hK hg
   simp only [e1]
   go_simp
   simpa [updT,e1] using h
  ·exact sg
  ·have e2:t 2=.slice ad n cap:=hg 2 (Wt rfl)
   have e3:t 3=.int .i64 (k:Nat):=hg 3 (Wt rfl)
   have h:=hK _ X rfl (br _ _)
   refine Zi rfl rfl ?_
   clear hK hg
   simp only [e2,e3]
   go_simp
   rw [if_pos (by omega),Oper.upon_value]
   go_simp
   simpa [updT,e2,e3] using h
  ·exact sg
  ·have e6:t 6=.int .i64 ix:=hg 6 (Wt rfl)
   have h:=hK _ X rfl (br _ _)
   refine Zi rfl rfl ?_
   clear hK hg
   simp only [e6]
   go_simp
   simpa [updT,e6] using h
  ·exact sg
  ·have e10:t 10=.pointer (some ⟨S,16,none⟩):=hg 10 (Wt rfl)
   have f1:=(hb.cell (p:=⟨S,16,none⟩) hS).trans h16
   have h:=hK _ X rfl (br _ _)
   refine Zi rfl rfl ?_
   clear hK hg
   simp only [e10]
   go_simp
   simpa [updT,e10] using h
  ·exact sg
  ·have e11:t 11=.slice ad n cap:=hg 11 (Wt rfl)
   have e12:t 12=.int .i64 (k:Nat):=hg 12 (Wt rfl)
   have h:=hK (.slice (if cap=k then ad else Option.map (fun x=>x.add (k*2)) ad) (n-k) (cap-k)) X ⟨_,_,rfl,EX hs hkn hcap⟩ (br _ _)
   refine Zi rfl rfl ?_
   clear hK hg
   simp only [e11,e12]
   go_simp
   simpa [updT,e11,e12] using h
  ·exact sg
 ·intro t X K hb hg hK
  obtain ⟨b0,e0⟩:∃ b,t 0=.slice (some ⟨b,0,none⟩) 0 0:=hg 0 (Wt rfl)
  have e4:t 4=.slice ad k cap:=hg 4 (Wt rfl)
  obtain ⟨v,Y,hrun,hrw,hnew,hbY⟩:=Oj (P:=Tryz.prog) W X hb 36 36 108 2 32 (.agg #[.int .i64 0,.slice none 0 0]) Tryz.underlying36 Tryz.info108 (by omega) rfl lo hi b0 ad k cap c ((hs.belowR hb hhi).take (by omega)) (by omega) (by omega)
  exact ZY rfl rfl (.tmp 40) (.tmp 44) 36 36 rfl (by exact e0) (by exact e4) hrun (hK v Y trivial hrw hnew hbY)
 ·intro t X K hb hg hK
  have e7:t 7=.agg #[.int .i64 ix,.slice none 0 0]:=hg 7 (Wt rfl)
  have h:=hK (.slice (some ⟨X.1.size,0,none⟩) 1 1) (X.alloc (.cells #[.int .i64 ix,.slice none 0 0] 108)) trivial ⟨X.1.size,rfl,hb.size,by simp,Ea (by simp) (by simp)⟩ (fun h m e=>by cases e;exact lrf _) (Zb _ _)
  refine Zi rfl rfl ?_
  clear hK hg
  simp only [e7]
  go_simp
  simpa [updT,e7] using h
 ·intro t X K hb hg ra rb _ hK
  obtain ⟨b6,e6,_,_,s6⟩:=rb
  obtain ⟨v,Y,hrun,hrw,hbY⟩:=KS (P:=Tryz.prog) W X hb 36 36 108 2 32 (.agg #[.int .i64 0,.slice none 0 0]) Tryz.underlying36 Tryz.info108 (by omega) rfl k c (fun j hj=>hs.one j (by omega)) (t 5) ra b6 (b6+1) (some ⟨b6,0,none⟩) 1 1 (akD ix) s6 (Or.inr (by omega)) (by omega) (by omega)
  exact ZY rfl rfl (.tmp 45) (.tmp 48) 36 36 rfl rfl (by exact e6) hrun (hK v Y trivial hrw hbY)
 ·intro t X K hb hg rc hK
  obtain ⟨ad2,cap2,e13,s13⟩:∃ ad2 cap2,t 13=.slice ad2 (n-k) cap2∧SrcRow W lo hi ad2 ((n-k)*2) (fun j=>c (k*2+j)):=hg 13 (Wt rfl)
  obtain ⟨v,Y,hrun,hrw,hbY⟩:=KS (P:=Tryz.prog) W X hb 36 36 108 2 32 (.agg #[.int .i64 0,.slice none 0 0]) Tryz.underlying36 Tryz.info108 (by omega) rfl (k+1) (XD c (k*2) (akD ix)) (fun j hj=>by
   unfold XD
   split
   ·exact hs.one j (by omega)
   ·unfold akD;split<;>rfl) (t 9) rc lo hi ad2 (n-k) cap2 (fun j=>c (k*2+j)) (s13.belowR hb hhi) (Or.inl (by omega)) (by omega) (by omega)
  exact ZY rfl rfl (.tmp 49) (.tmp 53) 36 36 rfl rfl (by exact e13) hrun (hK v Y trivial hrw hbY)
 ·intro t X K hb hg rd hK
  have e15:t 15=.pointer (some ⟨S,16,none⟩):=hg 15 (by omega)
  have f1:=(hb.cell (p:=⟨S,16,none⟩) hS).trans h16
  have f2:=(hb.frozen (p:=⟨S,16,none⟩) hS).trans hf16
  obtain ⟨a3,g3,c3,e14,r3,l3⟩:=rd
  have h:=hK ⟨#[p0,.int .i64 ix,p2,.pointer (some ⟨S,0,none⟩),p4,p5,p6,.int .i64 (k:Nat),p8,p9,ze,zc,za,zd,zi,zj,zg,zh,zn,zm,zo,zp,zq,yb,yf,ye,z9,yd,z8,z0,zu,zy,zt,yg,yi,yj,yh,yk,ym,yo,t 0,t 1,t 2,t 3,t 4,t 5,t 6,t 7,t 8,t 9,t 10,t 11,t 12,t 13,t 14,t 15,yp,yq,yv,yw,xx,xy,xc,yu,yx,xb,xd,xg,xk,xe,xh],[]⟩ (X.setCell ⟨S,16,none⟩ (.slice a3 (k+1+(n-k)) c3)) ⟨t,_,X,rfl,rfl,⟨a3,g3,c3,rfl,r3,l3⟩,hb⟩
  refine Zi rfl rfl ?_
  clear hK hg
  simp only [e14,e15]
  go_simp
  simpa [e14,e15] using h
 ·rintro ac X ⟨t,v3,Y,rfl,rfl,h1,h2⟩
  exact hQ t v3 Y h1 h2
end Go.Proofs.YtokkbdlofbdljaaGreat
