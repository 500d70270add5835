import Derived.Test.YtokkbdlofbdljaaGreatHy
import Derived.Test.YtokkbdlofbdljaaGreatHd
import Derived.Test.YtokkbdlofbdljaaGreatGs
import Derived.Test.YtokkbdlofbdljaaGreatS
namespace Go.Proofs.YtokkbdlofbdljaaGreat
open Go.RowKit
open Go.ChangeShapes Go.WideShapes Go.ChangeAt Go.RowKit Go.Deep
open Go.WideMaps Go.WideElems
set_option maxHeartbeats 8000000
theorem list14 {α:Type} {l:List α} (h:l.length=14):∃ a0 a1 a2 a3 a4 a5 a6 a7 a8 a9 a10 a11 a12 a13,l=[a0,a1,a2,a3,a4,a5,a6,a7,a8,a9,a10,a11,a12,a13]:=by
 match l,h with
 | [a0,a1,a2,a3,a4,a5,a6,a7,a8,a9,a10,a11,a12,a13],_=>exact ⟨a0,a1,a2,a3,a4,a5,a6,a7,a8,a9,a10,a11,a12,a13,rfl⟩
theorem list18 {α:Type} {l:List α} (h:l.length=18):∃ a0 a1 a2 a3 a4 a5 a6 a7 a8 a9 a10 a11 a12 a13 a14 a15 a16 a17,l=[a0,a1,a2,a3,a4,a5,a6,a7,a8,a9,a10,a11,a12,a13,a14,a15,a16,a17]:=by
 match l,h with
 | [a0,a1,a2,a3,a4,a5,a6,a7,a8,a9,a10,a11,a12,a13,a14,a15,a16,a17],_=>exact ⟨a0,a1,a2,a3,a4,a5,a6,a7,a8,a9,a10,a11,a12,a13,a14,a15,a16,a17,rfl⟩
set_option maxRecDepth 100000 in
theorem Ow {H:Type} {enc:TypeId × Value→H} {W:World} {fuel:Nat} {v:Value} {x:DataW H × List MemPlace} (h:DataW.trod enc Tryz.prog W 0 (fun _=>true) true fuel 27 [v]=some x) (hs:Ub 27 x.1) :
  ∃ ad n cap s,v=.slice ad n cap∧(n:Int)≤17592186044416∧IntsIn W 0 W.1.size ad n s:=by
 rcases open_slice Tryz.underlying27 h with ⟨hc,_⟩|⟨a,len,cap,m,n,D,Pl,hc,_,hl,_,hm,hx,hel⟩
 ·simp only [List.cons.injEq,and_true] at hc
  exact ⟨none,0,0,fun _=>0,hc,by omega,fun i hi=>absurd hi (nlz _)⟩
 ·simp only [List.cons.injEq,and_true] at hc
  simp only [if_true] at hm
  subst hm
  subst hx
  obtain ⟨f1,f2⟩:=JO Tryz.underlying27 hs
  simp only [List.length_map,List.length_range,Tryz.b3,reachBytes] at f1
  obtain ⟨b0,off0,spot⟩:=a
  have hspot:0<len→spot=none:=fun h0=>by
   obtain ⟨cs0,h10,_⟩:=hel 0 (by omega)
   rw [Tryz.c3] at h10
   obtain ⟨_,hcl0,hcc0⟩:=World.cells?_some h10
   have:=hcc0 0 (by omega)
   rw [List.getElem?_eq_getElem (by omega)] at this
   simpa [Addr.add] using World.cell?_spot this
  obtain ⟨s,hsk⟩:=skol (n:=len) (0:Int) (p:=fun i k=>∃ b off,(some ⟨b0,off0,spot⟩:Option Addr)=some ⟨b,off,none⟩∧0≤b∧b<W.1.size∧W.cell? ⟨b,off+i,none⟩=some (.int .i64 k)) (fun i hi=>by
   obtain ⟨cs,h1,h2⟩:=hel i (by omega)
   rw [Tryz.c3] at h1
   obtain ⟨_,hcl,hcc⟩:=World.cells?_some h1
   obtain ⟨c,rfl⟩:∃ c,cs=[c]:=by
    match cs,hcl with
    | [c],_=>exact ⟨c,rfl⟩
   obtain ⟨k,rfl⟩:=Ys h2
   have hc0:W.cell? (((⟨b0,off0,spot⟩:Addr).add (i*1)).add 0)=some (.int .i64 k):=hcc 0 (by omega)
   have e:=hspot (by omega)
   subst e
   have ea:(((⟨b0,off0,none⟩:Addr).add (i*1)).add 0)=⟨b0,off0+i,none⟩:=by simp [add_plain]
   rw [ea] at hc0
   exact ⟨k,b0,off0,rfl,zle _,IJ hc0,hc0⟩)
  exact ⟨some ⟨b0,off0,spot⟩,len,m,s,hc,by omega,hsk⟩
set_option maxRecDepth 100000 in
theorem openAck {H:Type} {enc:TypeId × Value→H} {W:World} {fuel:Nat} {cs:List Value} {x:DataW H × List MemPlace} (h:DataW.trod enc Tryz.prog W 0 (fun _=>true) true fuel 100 cs=some x) (hs:Ub 100 x.1) :
  ∃ (a:Ak) (ad:Option Addr) (cap:Nat),cs=[.int .i64 a.ix,.slice ad a.n cap]∧IntsIn W 0 W.1.size ad a.n a.s∧AkFit a:=by
 obtain ⟨xs,n,_,rfl,hlen,hxl,hf⟩:=DataW.trod_struct Tryz.underlying100 h
 rw [Tryz.c100] at hlen
 obtain ⟨c0,c1,rfl⟩:=PJ hlen
 obtain ⟨y0,y1,rfl⟩:=PJ (show xs.length=2 from hxl)
 have g0:=hf 0 _ rfl
 have g1:=hf 1 _ rfl
 simp only [List.getElem?_cons_succ,List.getElem?_cons_zero] at g0 g1
 have hs':∀ z,z ∈ DataW.weights Tryz.prog 27 y1.1→z≤reachBytes:=fun z hz=>hs z (by
  simp only [List.map_cons,List.map_nil,DataW.weights,Tryz.underlying100,DataW.weightsEach,List.mem_append]
  simp [hz])
 obtain ⟨b,rfl⟩:=Ys g0
 obtain ⟨ad,n,cap,s,rfl,hn,hin⟩:=Ow g1 (fun z hz=>hs' z hz)
 exact ⟨⟨b,n,s⟩,ad,cap,rfl,hin,⟨hn⟩⟩
set_option maxRecDepth 100000 in
theorem Fq {H:Type} {enc:TypeId × Value→H} {W:World} {fuel:Nat} {v:Value} {x:DataW H × List MemPlace} (h:DataW.trod enc Tryz.prog W 0 (fun _=>true) true fuel 28 [v]=some x) (hs:Ub 28 x.1) :
  ∃ ad n cap xs,v=.slice ad n cap∧(n:Int)≤8796093022208∧AksIn W 0 W.1.size ad n xs∧∀ i,i<n→AkFit (xs i):=by
 obtain ⟨ad,n,cap,rfl,hn,hel⟩:=Pj Tryz.underlying28 Tryz.c100 (by omega) h hs (by rw [Tryz.b100];omega)
 obtain ⟨xs,hxs⟩:=skol (⟨0,0,fun _=>0⟩:Ak) (p:=fun i o=>(∃ b off ah ch,ad=some ⟨b,off,none⟩∧0≤b∧b<W.1.size∧AkCells W b (off+i*2) o ah ch∧IntsIn W 0 W.1.size ah o.n o.s)∧AkFit o) (fun i hi=>by
  obtain ⟨b,off,cs,k,y,rfl,hb,hc,ht,hf⟩:=hel i hi
  obtain ⟨o,ah,ch,rfl,hin,hfit⟩:=openAck ht hf
  exact ⟨o,⟨b,off,ah,ch,rfl,zle _,hb,⟨hc 0 (by omega),hc 1 (by omega)⟩,hin⟩,hfit⟩)
 exact ⟨ad,n,cap,xs,rfl,hn,fun i hi=>(hxs i hi).1,fun i hi=>(hxs i hi).2⟩
set_option maxRecDepth 100000 in
theorem openMss {H:Type} {enc:TypeId × Value→H} {W:World} {fuel:Nat} {v:Value} {x:DataW H × List MemPlace} (h:DataW.trod enc Tryz.prog W 0 (fun _=>true) true fuel 25 [v]=some x) (hs:Ub 25 x.1) :
  ∃ ad n cap xs,v=.slice ad n cap∧(n:Int)≤8796093022208∧MssIn W 0 W.1.size ad n xs∧∀ i,i<n→Ji (xs i):=by
 obtain ⟨ad,n,cap,rfl,hn,hel⟩:=Pj Tryz.underlying25 Tryz.c48 (by omega) h hs (by rw [Tryz.b48];omega)
 obtain ⟨xs,hxs⟩:=skol (⟨0,0,0,0,0,0,⟨#[]⟩,0,fun _=>⟨0,⟨#[]⟩⟩⟩:Ms) (p:=fun i o=>(∃ b off ah ch,ad=some ⟨b,off,none⟩∧0≤b∧b<W.1.size∧MsCells W b (off+i*8) o ah ch∧SlsIn W 0 W.1.size ah o.n o.s)∧Ji o) (fun i hi=>by
  obtain ⟨b,off,cs,k,y,rfl,hb,hc,ht,hf⟩:=hel i hi
  obtain ⟨o,ah,ch,rfl,hin,hfit⟩:=Fp ht hf
  exact ⟨o,⟨b,off,ah,ch,rfl,zle _,hb,⟨hc 0 (by omega),hc 1 (by omega),hc 2 (by omega),hc 3 (by omega),hc 4 (by omega),hc 5 (by omega),hc 6 (by omega),hc 7 (by omega)⟩,hin⟩,hfit⟩)
 exact ⟨ad,n,cap,xs,rfl,hn,fun i hi=>(hxs i hi).1,fun i hi=>(hxs i hi).2⟩
set_option maxRecDepth 100000 in
theorem openRec {H:Type} {enc:TypeId × Value→H} {W:World} {fuel:Nat} {cs:List Value} {x:DataW H × List MemPlace} (h:DataW.trod enc Tryz.prog W 0 (fun _=>true) true fuel 30 cs=some x) (hs:Ub 30 x.1) :
  ∃ (r:Rc) (A:RcA),cs=(rcC r A).toList∧RcIn W 0 W.1.size r A∧ZR r:=by
 obtain ⟨xs,n,_,rfl,hlen,hxl,hf⟩:=DataW.trod_struct Tryz.underlying30 h
 rw [Tryz.c30] at hlen
 obtain ⟨c0,c1,c2,c3,c4,c5,c6,c7,c8,c9,c10,c11,c12,c13,c14,c15,c16,c17,rfl⟩:=list18 hlen
 obtain ⟨y0,y1,y2,y3,y4,y5,y6,y7,y8,y9,y10,y11,y12,y13,rfl⟩:=list14 (show xs.length=14 from hxl)
 have g0:DataW.trod enc Tryz.prog W 0 (fun _=>true) true n 3 [c0]=some y0:=hf 0 _ rfl
 have g1:DataW.trod enc Tryz.prog W 0 (fun _=>true) true n 3 [c1]=some y1:=hf 1 _ rfl
 have g2:DataW.trod enc Tryz.prog W 0 (fun _=>true) true n 4 [c2]=some y2:=hf 2 _ rfl
 have g3:DataW.trod enc Tryz.prog W 0 (fun _=>true) true n 24 [c3,c4,c5]=some y3:=hf 3 _ rfl
 have g4:DataW.trod enc Tryz.prog W 0 (fun _=>true) true n 24 [c6,c7,c8]=some y4:=hf 4 _ rfl
 have g5:DataW.trod enc Tryz.prog W 0 (fun _=>true) true n 25 [c9]=some y5:=hf 5 _ rfl
 have g6:DataW.trod enc Tryz.prog W 0 (fun _=>true) true n 26 [c10]=some y6:=hf 6 _ rfl
 have g7:DataW.trod enc Tryz.prog W 0 (fun _=>true) true n 4 [c11]=some y7:=hf 7 _ rfl
 have g8:DataW.trod enc Tryz.prog W 0 (fun _=>true) true n 4 [c12]=some y8:=hf 8 _ rfl
 have g9:DataW.trod enc Tryz.prog W 0 (fun _=>true) true n 3 [c13]=some y9:=hf 9 _ rfl
 have g10:DataW.trod enc Tryz.prog W 0 (fun _=>true) true n 27 [c14]=some y10:=hf 10 _ rfl
 have g11:DataW.trod enc Tryz.prog W 0 (fun _=>true) true n 22 [c15]=some y11:=hf 11 _ rfl
 have g12:DataW.trod enc Tryz.prog W 0 (fun _=>true) true n 28 [c16]=some y12:=hf 12 _ rfl
 have g13:DataW.trod enc Tryz.prog W 0 (fun _=>true) true n 3 [c17]=some y13:=hf 13 _ rfl
 have w3:Ub 24 y3.1:=fun z hz=>hs z (by
  simp only [List.map_cons,List.map_nil,DataW.weights,Tryz.underlying30,DataW.weightsEach,List.mem_append]
  simp [hz])
 have w4:Ub 24 y4.1:=fun z hz=>hs z (by
  simp only [List.map_cons,List.map_nil,DataW.weights,Tryz.underlying30,DataW.weightsEach,List.mem_append]
  simp [hz])
 have w5:Ub 25 y5.1:=fun z hz=>hs z (by
  simp only [List.map_cons,List.map_nil,DataW.weights,Tryz.underlying30,DataW.weightsEach,List.mem_append]
  simp [hz])
 have w6:Ub 26 y6.1:=fun z hz=>hs z (by
  simp only [List.map_cons,List.map_nil,DataW.weights,Tryz.underlying30,DataW.weightsEach,List.mem_append]
  simp [hz])
 have w10:Ub 27 y10.1:=fun z hz=>hs z (by
  simp only [List.map_cons,List.map_nil,DataW.weights,Tryz.underlying30,DataW.weightsEach,List.mem_append]
  simp [hz])
 have w11:Ub 22 y11.1:=fun z hz=>hs z (by
  simp only [List.map_cons,List.map_nil,DataW.weights,Tryz.underlying30,DataW.weightsEach,List.mem_append]
  simp [hz])
 have w12:Ub 28 y12.1:=fun z hz=>hs z (by
  simp only [List.map_cons,List.map_nil,DataW.weights,Tryz.underlying30,DataW.weightsEach,List.mem_append]
  simp [hz])
 obtain ⟨i0,rfl⟩:=Ys g0
 obtain ⟨i1,rfl⟩:=Ys g1
 obtain ⟨i2,rfl⟩:=Uq g2
 obtain ⟨i7,rfl⟩:=Uq g7
 obtain ⟨i8,rfl⟩:=Uq g8
 obtain ⟨i9,rfl⟩:=Ys g9
 obtain ⟨i13,rfl⟩:=Ys g13
 obtain ⟨d3,a3,p3,e3,in3,f3⟩:=Oy g3 w3
 obtain ⟨d4,a4,p4,e4,in4,f4⟩:=Oy g4 w4
 obtain ⟨a5,n5,p5,s5,rfl,m5,in5,f5⟩:=openMss g5 w5
 obtain ⟨a6,n6,p6,s6,rfl,in6,m6,f6⟩:=Fm g6 w6
 obtain ⟨a10,n10,ze,s10,rfl,m10,in10⟩:=Ow g10 w10
 obtain ⟨a11,n11,zc,s11,rfl,m11,in11,f11⟩:=Ku g11 w11
 obtain ⟨a12,n12,za,s12,rfl,m12,in12,f12⟩:=Fq g12 w12
 simp only [List.cons.injEq,and_true] at e3 e4
 obtain ⟨rfl,rfl,rfl⟩:=e3
 obtain ⟨rfl,rfl,rfl⟩:=e4
 exact ⟨⟨i0,i1,i2,d3,d4,n5,s5,n6,s6,i7,i8,i9,n10,s10,n11,s11,n12,s12,i13⟩,⟨a3,a4,a5,a6,a10,a11,a12,p3,p4,p5,p6,ze,zc,za⟩,rfl,⟨in3,in4,in5,in6,in10,in11,in12⟩,⟨f3,f4,m5,f5,m6,f6,m10,m11,f11,m12,f12⟩⟩
set_option maxRecDepth 100000 in
theorem openRc {H:Type} {enc:TypeId × Value→H} {W:World} {b0:Nat} {v:Value} {d:DataW H} {p:List MemPlace} (hv:Value.okWide Tryz.prog W .any b0 30 v) (h:DataW.Trod enc Tryz.prog W 0 (fun _=>true) true 30 v d p) (hs:Ub 30 d) :
  ∃ (r:Rc) (A:RcA),v=rcV r A∧RcIn W 0 W.1.size r A∧ZR r:=by
 obtain ⟨cs,rfl,hsz⟩:=okWide_struct Tryz.underlying30 hv
 obtain ⟨fuel,hf0⟩:=h
 obtain ⟨r,A,hcs,h1,h2⟩:=openRec hf0 hs
 refine ⟨r,A,?_,h1,h2⟩
 have:cs=rcC r A:=by
  apply Array.ext'
  exact hcs
 rw [this]
theorem RowF.of {w:World} {g n z:Nat} {f:Nat→List Value} (hz:0<z) (hl:∀ i,i<n→(f i).length=z) (h:∀ i,i<n→∀ k,k<z→w.cell? ⟨g,i*z+k,none⟩=(f i)[k]?) (hf:∀ j,w.frozen? ⟨g,j,none⟩=false) (hlt:g<w.1.size):RowF w g (n*z) (YW z f):=by
 refine ⟨hlt,hf,fun j hj=>?_⟩
 have k1:j / z<n:=Nat.div_lt_of_lt_mul (by rw [Nat.mul_comm];exact hj)
 have k2:j % z<z:=Nat.mod_lt _ hz
 have k3:j / z*z+j % z=j:=by rw [Nat.mul_comm];exact Nat.div_add_mod j z
 have:=h (j / z) k1 (j % z) k2
 rw [k3] at this
 rw [this,YW,List.getD_eq_getElem?_getD,List.getElem?_eq_getElem (by rw [hl _ k1];exact k2)]
 rfl
theorem SlsOwnAt.at {w:World} {g n:Nat} {x:Nat→Sl} (h:SlsOwnAt w g n n x):SlsAt w (some ⟨g,0,none⟩) g n x:=
 ⟨fun _=>rfl,fun _=>⟨_,RowF.of (by omega) (fun _ _=>rfl) (fun i hi k hk=>by
  obtain ⟨a0,a1⟩:=h.at_ i hi
  rcases (show k=0∨k=1 by omega) with rfl|rfl
  ·exact a0
  ·exact a1) h.room.free h.room.lt,fun i _=>Ud x i⟩⟩
theorem SlsOwn.at {w:World} {lo hi:Nat} {ad:Option Addr} {n:Nat} {x:Nat→Sl} (h:SlsOwn w lo hi ad n x):∃ g,SlsAt w ad g n x∧lo≤g∧g<hi:=by
 obtain ⟨g,rfl,h1,h2,h3⟩:=h
 exact ⟨g,h3.at,h1,h2⟩
theorem apTb5 {P:Prop} (h:P:=by
  by_cases h0:n=0
  ·subst h0;exact ⟨0,fun i hi=>absurd hi (nlz _),fun h=>absurd rfl h⟩
  ·obtain ⟨b,off,e1,e2,e3,_⟩:=h 0 (by omega)
   refine ⟨b,fun i hi=>?_,fun _=>⟨e2,e3⟩⟩
   obtain ⟨b',off',f1,f2,f3,f4⟩:=h i hi
   rw [e1] at f1
   cases f1
   exact ⟨b,off,e1,lrf _,Nat.lt_succ_self _,f4⟩):P:=h
theorem StrsOwn.one {w:World} {lo hi:Nat} {ad:Option Addr} {n:Nat} {s:Nat→ByteArray} (h:StrsOwn w lo hi ad n s):∃ b,StrsOwn w b (b+1) ad n s∧(n≠0→lo≤b∧b<hi):=by
 exact apTb5
theorem IntsOwn.one {w:World} {lo hi:Nat} {ad:Option Addr} {n:Nat} {s:Nat→Int} (h:IntsOwn w lo hi ad n s):∃ b,IntsOwn w b (b+1) ad n s∧(n≠0→lo≤b∧b<hi):=by
 exact apTb5
theorem Is {r:Nat→Nat} {n:Nat} (h:∀ i,i<n→r i≤r (i+1)) {i j:Nat} (hij:i≤j) (hj:j≤n):r i≤r j:=by
 induction j with
 | zero=>
   have:i=0:=by omega
   subst this;exact lrf _
 | succ m ih=>
  rcases Nat.lt_or_ge m i with h1|h1
  ·have:i=m+1:=by omega
   subst this;exact lrf _
  ·exact ltr (ih h1 (by omega)) (h m (by omega))
theorem OY {g n:Nat} {N hb r:Nat→Nat} (h0:g<r 0) (hm:∀ i,i<n→r i≤r (i+1)) (h:∀ i,i<n→N i≠0→r i≤hb i∧hb i<r (i+1)):ApartH g n N hb:=
 ⟨fun i hi hn e=>by have:=(h i hi hn).1;have:=Is hm (zle i) (by omega);omega,fun i j hi hj h1 h2 e=>by
  have e1:=h i hi h1
  have e2:=h j hj h2
  rcases Nat.lt_trichotomy i j with q|q|q
  ·have:=Is hm (i:=i+1) (j:=j) (by omega) (by omega);omega
  ·exact q
  ·have:=Is hm (i:=j+1) (j:=i) (by omega) (by omega);omega⟩
theorem MssOwnIn.at {w:World} {lo hi:Nat} {ad:Option Addr} {n:Nat} {x:Nat→Ms} (k:MssOwnIn w lo hi ad n x):∃ g A C hb,MssAt w ad g n x A C hb∧∀ q,blkH g n (fun i=>(x i).n) hb q→lo≤q∧q<hi:=by
 obtain ⟨g,h,r,rfl,h1,h2,o⟩:=k
 obtain ⟨F,hF⟩:=skolC (n:=n) ((none,0,0):(Option Addr × Nat × Nat)) (p:=fun i q=>MsCells w g (i*8) (x i) q.1 q.2.1∧SlsAt w q.1 q.2.2 (x i).n (x i).s∧r i≤q.2.2∧q.2.2<r (i+1)) (fun i hi'=>by
  obtain ⟨ah,ch,e1,e2⟩:=o.at_ i hi'
  obtain ⟨b,e3,e4,e5⟩:=e2.at
  exact ⟨(ah,ch,b),e1,e3,e4,e5⟩)
 have rh:∀ i,i<n→r (i+1)≤h:=fun i hi=>ltr (Is o.mono (i:=i+1) (j:=n) (by omega) (lrf _)) o.rn
 refine ⟨g,fun i=>(F i).1,fun i=>(F i).2.1,fun i=>(F i).2.2,⟨fun _=>rfl,fun _=>⟨_,RowF.of (by omega) (fun _ _=>rfl) (fun i hi k hk=>?_) o.room.free o.room.lt,fun i _=>msR_at x (fun i=>(F i).1) (fun i=>(F i).2.1) i⟩,fun i hi=>(hF i hi).2.1,fun i hi _=>?_,OY o.r0 o.mono (fun i hi _=>(hF i hi).2.2)⟩,fun q hq=>?_⟩
 ·obtain ⟨a0,a1,a2,a3,a4,a5,a6,a7⟩:=(hF i hi).1
  rcases (show k=0∨k=1∨k=2∨k=3∨k=4∨k=5∨k=6∨k=7 by omega) with rfl|rfl|rfl|rfl|rfl|rfl|rfl|rfl
  ·exact a0
  ·exact a1
  ·exact a2
  ·exact a3
  ·exact a4
  ·exact a5
  ·exact a6
  ·exact a7
 ·have:=(hF i hi).2.2.2;have:=rh i hi;have:=o.hi;omega
 ·rcases hq with ⟨h0,rfl⟩|⟨i,hi,_,rfl⟩
  ·have:=o.r0;have:=Is o.mono (zle n) (lrf _);have:=o.rn;omega
  ·have e:=(hF i hi).2.2
   have:=o.r0;have:=Is o.mono (zle i) (by omega);have:=rh i hi
   dsimp only;omega
theorem AksOwnIn.at {w:World} {lo hi:Nat} {ad:Option Addr} {n:Nat} {x:Nat→Ak} (k:AksOwnIn w lo hi ad n x):∃ g A C hb,AksAt w ad g n x A C hb∧∀ q,blkH g n (fun i=>(x i).n) hb q→lo≤q∧q<hi:=by
 obtain ⟨g,h,r,rfl,h1,h2,o⟩:=k
 obtain ⟨F,hF⟩:=skolC (n:=n) ((none,0,0):(Option Addr × Nat × Nat)) (p:=fun i q=>AkCells w g (i*2) (x i) q.1 q.2.1∧IntsOwn w q.2.2 (q.2.2+1) q.1 (x i).n (x i).s∧((x i).n≠0→r i≤q.2.2∧q.2.2<r (i+1))) (fun i hi'=>by
  obtain ⟨ah,ch,e1,e2⟩:=o.at_ i hi'
  obtain ⟨b,e3,e4⟩:=e2.one
  exact ⟨(ah,ch,b),e1,e3,e4⟩)
 have rh:∀ i,i<n→r (i+1)≤h:=fun i hi=>ltr (Is o.mono (i:=i+1) (j:=n) (by omega) (lrf _)) o.rn
 refine ⟨g,fun i=>(F i).1,fun i=>(F i).2.1,fun i=>(F i).2.2,⟨fun _=>rfl,fun _=>⟨_,RowF.of (by omega) (fun _ _=>rfl) (fun i hi k hk=>?_) o.room.free o.room.lt,fun i _=>akR_at x (fun i=>(F i).1) (fun i=>(F i).2.1) i⟩,fun i hi=>(hF i hi).2.1,fun i hi h0=>?_,OY o.r0 o.mono (fun i hi h0=>(hF i hi).2.2 h0)⟩,fun q hq=>?_⟩
 ·obtain ⟨a0,a1⟩:=(hF i hi).1
  rcases (show k=0∨k=1 by omega) with rfl|rfl
  ·exact a0
  ·exact a1
 ·have:=((hF i hi).2.2 h0).2;have:=rh i hi;have:=o.hi;omega
 ·rcases hq with ⟨h0,rfl⟩|⟨i,hi,h0,rfl⟩
  ·have:=o.r0;have:=Is o.mono (zle n) (lrf _);have:=o.rn;omega
  ·have e:=(hF i hi).2.2 h0
   have:=o.r0;have:=Is o.mono (zle i) (by omega);have:=rh i hi
   dsimp only;omega
theorem RcOwnAt.at {w:World} {r:Rc} {A:RcA} {lo m1 m2 m3 m4 m5 m6 hi:Nat} (h:RcOwnAt w r A lo m1 m2 m3 m4 m5 m6 hi):∃ p:RcP,p.A=A∧RcAt w r p∧∀ k,rbs p r k→lo≤k:=by
 obtain ⟨o0,o1,o2,o3,o4,o5,o6,l0,l1,l2,l3,l4,l5,l6,top⟩:=h
 obtain ⟨g0,a0,b0,c0⟩:=o0.at
 obtain ⟨g1,a1,b1,c1⟩:=o1.at
 obtain ⟨g2,A2,C2,h2,a2,b2⟩:=o2.at
 obtain ⟨g3,a3,b3⟩:=o3.one
 obtain ⟨g4,a4,b4⟩:=o4.one
 obtain ⟨g5,a5,b5,c5⟩:=o5.at
 obtain ⟨g6,A6,C6,h6,a6,b6⟩:=o6.at
 refine ⟨⟨A,g0,g1,g2,g3,g4,g5,g6,A2,C2,h2,A6,C6,h6⟩,rfl,RcAt.ofRows (fun j=>match j with|0=>lo|1=>m1|2=>m2|3=>m3|4=>m4|5=>m5|6=>m6|_=>hi) a0 a1 a2 a3 a4 a5 a6 ?_ top ?_,?_⟩
 ·intro j hj
  rcases (show j=0∨j=1∨j=2∨j=3∨j=4∨j=5∨j=6 by omega) with rfl|rfl|rfl|rfl|rfl|rfl|rfl
  ·exact l0
  ·exact l1
  ·exact l2
  ·exact l3
  ·exact l4
  ·exact l5
  ·exact l6
 ·intro j k hj hk
  rcases (show j=0∨j=1∨j=2∨j=3∨j=4∨j=5∨j=6 by omega) with rfl|rfl|rfl|rfl|rfl|rfl|rfl
  ·obtain ⟨_,rfl⟩:=hk;exact ⟨b0,c0⟩
  ·obtain ⟨_,rfl⟩:=hk;exact ⟨b1,c1⟩
  ·exact b2 k hk
  ·obtain ⟨h0,rfl⟩:=hk;exact b3 h0
  ·obtain ⟨h0,rfl⟩:=hk;exact b4 h0
  ·obtain ⟨_,rfl⟩:=hk;exact ⟨b5,c5⟩
  ·exact b6 k hk
 ·rintro k ⟨j,hj,hk⟩
  rcases (show j=0∨j=1∨j=2∨j=3∨j=4∨j=5∨j=6 by omega) with rfl|rfl|rfl|rfl|rfl|rfl|rfl
  ·have h9:k=g0:=hk.2;omega
  ·have h9:k=g1:=hk.2;omega
  ·have:=b2 k hk;omega
  ·have h9:k=g3:=hk.2;have:=b3 hk.1;omega
  ·have h9:k=g4:=hk.2;have:=b4 hk.1;omega
  ·have h9:k=g5:=hk.2;omega
  ·have:=b6 k hk;omega
theorem Oz (k0:Nat) (x:Nat→Ms):∀ n,ZS k0 x n≤k0+7*Xa n x
 | 0=>Nat.le_add_right _ _
 | n+1=>by
  have ih:=Oz k0 x n
  have e:Xa (n+1) x=Xa n x+1+szMs (x n):=by unfold Xa;simp only [Zz];omega
  have e2:(x n).n≤szMs (x n):=by unfold szMs YJ;omega
  rw [ZS,e]
  omega
theorem OB (k0:Nat) (x:Nat→Ak):∀ n,ZT k0 x n≤k0+Xb n x
 | 0=>Nat.le_add_right _ _
 | n+1=>by
  have ih:=OB k0 x n
  have e:Xb (n+1) x=Xb n x+1+szAk (x n):=by unfold Xb;simp only [Zz];omega
  have e2:(x n).n=szAk (x n):=rfl
  rw [ZT,e]
  omega
theorem mkRc_le (k0:Nat) (r:Rc):mkRc k0 r≤k0+7*szRc r:=by
 have h1:=Oz (kk2 k0 r) r.hs r.hn
 have h2:=OB (kk6 k0 r) r.as_ r.an
 unfold mkRc
 unfold kk6 kk5 kk4 kk3 kk2 kk1 at *
 unfold szRc szDk YJ YR
 omega
end Go.Proofs.YtokkbdlofbdljaaGreat
namespace Go.Proofs.YtokkbdlofbdljaaGreat
open Go.RowKit
theorem Tryz.sz30:(Tryz.prog.info? 30).map (·.size)=some 18:=by kernel_rfl
theorem Uk (f:Nat→Nat):∀ {n i:Nat},i<n→f i≤Zz f n
 | 0,i,h=>absurd h (nlz _)
 | n+1,i,h=>by
  unfold Zz
  by_cases e:i=n
  ·subst e;omega
  ·have:=Uk f (n:=n) (i:=i) (by omega);omega
theorem Ph {r:Rc} (h:(szRc r:Int)≤1048576):ZW r:=by
 unfold szRc szDk Xa YR YJ Xb at h
 refine ⟨by omega,by omega,by omega,fun i hi=>?_,by omega,by omega,by omega,by omega,fun i hi=>?_⟩
 ·have:=Uk (fun i=>szMs (r.hs i)) hi
  simp only [szMs,YJ] at this
  simp only [szMs,YJ] at h
  omega
 ·have:=Uk (fun i=>szAk (r.as_ i)) hi
  simp only [szAk] at this
  simp only [szAk] at h
  omega
theorem YX {P:Program} {ops:Array Oper} {Q:Exit→Act→World→Prop} {i:Nat} {K:Act→World→Prop} {a:Act} {w:World} {o:Oper} (ho:ops[i]? = some o) (hg:o.guard=none) (ty:TypeId) (x:Operand) (hop:o.op=.load ty x)
  (b:Nat) (hx:a.eval x=.pointer (some ⟨b,0,none⟩)) (cs:List Value) (d:TypeDesc) (hc:w.rangeAt b 0 cs)
  (hu:P.underlying ty=some d) (hd:d.isRow=true) (hi:(P.info? ty).map (·.size)=some cs.length)
  (h:K (a.put o.dst (.agg cs.toArray)) w):wpOp P ops Q i K a w:=
 Zi ho hg (wp_load_mid ty x hop b 0 hx cs d hc hu hd hi h)
theorem RcIn.mono {w:World} {lo hi lo2 hi2:Nat} {r:Rc} {A:RcA} (h:RcIn w lo hi r A) (h1:lo2≤lo) (h2:hi≤hi2):RcIn w lo2 hi2 r A:=
 ⟨h.sf.mono h1 h2,h.dk.mono h1 h2,h.hs.mono h1 h2,h.ws.mono h1 h2,h.ys.mono h1 h2,h.bs.mono h1 h2,h.as_.mono h1 h2⟩
section
variable {W W':World} {S b6 b7 b8:Nat} {r:Rc} {A:RcA} {O:Rc} {A2:RcA} {rx:Rc} {p3:RcP} {Ox:Rc} {p5:RcP}
end
end Go.Proofs.YtokkbdlofbdljaaGreat
