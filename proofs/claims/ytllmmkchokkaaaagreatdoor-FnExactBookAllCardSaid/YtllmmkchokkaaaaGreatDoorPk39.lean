import Derived.Test.YtllmmkchokkaaaaGreatDoorPk02
import Derived.ProofKit
import Derived.SizedLaws
import Derived.Deep.Slices
import Derived.Deep.Strs
set_option maxRecDepth 100000
namespace Go.Proofs.YtllmmkchokkaaaaGreatDoor
open Go.ChangeShapes Go.WideShapes Go.ChangeAt Go.RowKit Go.Deep
theorem Tryz.c9:Tryz.prog.cellsOf 9=1:=Zf
theorem Tryz.c110:Tryz.prog.cellsOf 110=7:=Zf
theorem Tryz.c113:Tryz.prog.cellsOf 113=9:=Zf
theorem Tryz.c116:Tryz.prog.cellsOf 116=5:=Zf
theorem Tryz.c26:Tryz.prog.cellsOf 26=5:=Zf
theorem Tryz.b9:Tryz.prog.bytesOf 9=16:=Zf
theorem Tryz.b110:Tryz.prog.bytesOf 110=96:=Zf
theorem Tryz.b113:Tryz.prog.bytesOf 113=112:=Zf
theorem Tryz.b116:Tryz.prog.bytesOf 116=56:=Zf
def Fits {H:Type} (t:TypeId) (d:DataW H):Prop:=∀ x ∈ DataW.weights Tryz.prog t d,x≤reachBytes
theorem weightsAll_mem {H:Type} {P:Program} {e:TypeId} : ∀ {l:List (DataW H)} {d:DataW H},d ∈ l→∀ x ∈ DataW.weights P e d,x ∈ DataW.weightsAll P e l
 | d0::r,d,h,x,hx=>by
  rw [DataW.weightsAll]
  rcases List.mem_cons.1 h with rfl|h
  ·exact List.mem_append_left _ hx
  ·exact List.mem_append_right _ (weightsAll_mem h x hx)
theorem fits_slice {H:Type} {t e:TypeId} {es sp:List (DataW H)} (hu:Tryz.prog.underlying t=some (.slice e)) (h:Fits t (.slice es sp)):(es.length+sp.length)*Tryz.prog.bytesOf e≤reachBytes∧∀ d ∈ es,Fits e d:=by
 refine ⟨h _ (by simp [DataW.weights,hu]),fun d hd x hx=>h x ?_⟩
 simp only [DataW.weights,hu]
 exact List.mem_cons_of_mem _ (List.mem_append_left _ (weightsAll_mem hd x hx))
theorem fits_string {H:Type} {t:TypeId} {b:List UInt8} (h:Fits (H:=H) t (.lit (.string b))):b.length≤reachBytes:=h _ (by simp [DataW.weights])
theorem cell_lt {W:World} {a:Addr} {v:Value} (h:W.cell? a=some v):a.block<W.1.size:=by
 unfold World.cell? at h
 rcases Nat.lt_or_ge a.block W.1.size with h1|h1
 ·exact h1
 ·rw [Array.getElem?_eq_none h1] at h
  cases h
theorem openStrs {H:Type} {enc:TypeId × Value→H} {W:World} {fuel:Nat} {v:Value} {x:DataW H × List MemPlace} (h:DataW.trod enc Tryz.prog W 0 (fun _=>true) true fuel 108 [v]=some x) (hs:Fits 108 x.1) :
  ∃ ad n cap s,v=.slice ad n cap∧StrsIn W 0 W.1.size ad n s∧(n:Int)≤8796093022208∧∀ i,i<n→((s i).size:Int)≤140737488355328:=by
 rcases open_strs Tryz.underlying108 Tryz.underlying9 Tryz.c9 h with ⟨hc,_⟩|⟨a,len,cap,m,s,hc,_,hl,_,hm,hx,hcell⟩
 ·simp only [List.cons.injEq,and_true] at hc
  exact ⟨none,0,0,fun _=>⟨#[]⟩,hc,fun i hi=>absurd hi (Nat.not_lt_zero _),Za,fun i hi=>absurd hi (Nat.not_lt_zero _)⟩
 ·simp only [List.cons.injEq,and_true] at hc
  simp only [if_true] at hm
  subst hm
  subst hx
  obtain ⟨f1,f2⟩:=fits_slice Tryz.underlying108 hs
  simp only [List.length_map,List.length_range,Tryz.b9,reachBytes] at f1
  refine ⟨some a,len,m,s,hc,fun i hi=>?_,Za,fun i hi=>?_⟩
  ·obtain ⟨b,off,spot⟩:=a
   have hspot:spot=none:=by simpa [Addr.add] using World.cell?_spot (hcell 0 Za).1
   subst hspot
   have hci:=(hcell i Za).1
   have ea:((⟨b,off,none⟩:Addr).add i)=⟨b,off+i,none⟩:=by simp [Addr.add]
   rw [ea] at hci
   exact ⟨b,off,rfl,Nat.zero_le _,cell_lt hci,hci⟩
  ·have:=fits_string (f2 _ (List.mem_map.2 ⟨i,List.mem_range.2 hi,rfl⟩))
   have e:(s i).data.toList.length=(s i).size:=rfl
   simp only [reachBytes] at this
   omega
theorem list7 {α:Type} {l:List α} (h:l.length=7):∃ a b c d e f g,l=[a,b,c,d,e,f,g]:=by
 match l,h with
 | [a,b,c,d,e,f,g],_=>exact ⟨a,b,c,d,e,f,g,rfl⟩
theorem list5 {α:Type} {l:List α} (h:l.length=5):∃ a b c d e,l=[a,b,c,d,e]:=by
 match l,h with
 | [a,b,c,d,e],_=>exact ⟨a,b,c,d,e,rfl⟩
theorem list3 {α:Type} {l:List α} (h:l.length=3):∃ a b c,l=[a,b,c]:=by
 match l,h with
 | [a,b,c],_=>exact ⟨a,b,c,rfl⟩
theorem list9 {α:Type} {l:List α} (h:l.length=9):∃ a b c d e f g i j,l=[a,b,c,d,e,f,g,i,j]:=by
 match l,h with
 | [a,b,c,d,e,f,g,i,j],_=>exact ⟨a,b,c,d,e,f,g,i,j,rfl⟩
theorem fit_str {H:Type} {enc:TypeId × Value→H} {W:World} {n:Nat} {v:Value} {y:DataW H × List MemPlace} (h:DataW.trod enc Tryz.prog W 0 (fun _=>true) true n 9 [v]=some y) (hs:Fits 9 y.1):∃ s:ByteArray,v=.string s∧(s.size:Int)≤140737488355328:=by
 obtain ⟨s,h1,h2,_⟩:=DataW.trod_string Tryz.underlying9 h
 subst h2
 have:=fits_string hs
 have e:s.data.toList.length=s.size:=rfl
 simp only [reachBytes] at this
 exact ⟨s,by simpa using h1,Za⟩
theorem fit_int {H:Type} {enc:TypeId × Value→H} {W:World} {n:Nat} {v:Value} {y:DataW H × List MemPlace} (h:DataW.trod enc Tryz.prog W 0 (fun _=>true) true n 3 [v]=some y):∃ a:Int,v=.int .i64 a:=by
 obtain ⟨a,h1,_⟩:=DataW.trod_int Tryz.underlying3 h
 exact ⟨a,by simpa using h1⟩
theorem fit_intw {H:Type} {enc:TypeId × Value→H} {W:World} {n:Nat} {v:Value} {y:DataW H × List MemPlace} (h:DataW.trod enc Tryz.prog W 0 (fun _=>true) true n 3 [v]=some y):∃ a:Int,v=.int .i64 a∧(Lit.int .i64 a).wf=true:=by
 obtain ⟨a,h1,_,h3⟩:=DataW.trod_int Tryz.underlying3 h
 exact ⟨a,by simpa using h1,h3⟩
theorem fit_bool {H:Type} {enc:TypeId × Value→H} {W:World} {n:Nat} {v:Value} {y:DataW H × List MemPlace} (h:DataW.trod enc Tryz.prog W 0 (fun _=>true) true n 4 [v]=some y):∃ a:Bool,v=.bool a:=by
 obtain ⟨a,h1,_⟩:=DataW.trod_bool Tryz.underlying4 h
 exact ⟨a,by simpa using h1⟩
theorem openOb {H:Type} {enc:TypeId × Value→H} {W:World} {fuel:Nat} {cs:List Value} {x:DataW H × List MemPlace} (h:DataW.trod enc Tryz.prog W 0 (fun _=>true) true fuel 110 cs=some x) (hs:Fits 110 x.1) :
  ∃ (o:Ob) (ah:Option Addr) (ch:Nat),cs=[.string o.kind,.string o.name,.int .i64 o.ver,.int .i64 o.born,.string o.text,.bool o.ending,.slice ah o.hn ch]∧StrsIn W 0 W.1.size ah o.hn o.hs∧ObFit o:=by
 obtain ⟨xs,n,_,rfl,hlen,hxl,hf⟩:=DataW.trod_struct Tryz.underlying110 h
 rw [Tryz.c110] at hlen
 obtain ⟨c0,c1,c2,c3,c4,c5,c6,rfl⟩:=list7 hlen
 obtain ⟨y0,y1,y2,y3,y4,y5,y6,rfl⟩:=list7 (show xs.length=7 from hxl)
 have g0:=hf 0 _ rfl
 have g1:=hf 1 _ rfl
 have g2:=hf 2 _ rfl
 have g3:=hf 3 _ rfl
 have g4:=hf 4 _ rfl
 have g5:=hf 5 _ rfl
 have g6:=hf 6 _ rfl
 simp only [List.getElem?_cons_succ,List.getElem?_cons_zero] at g0 g1 g2 g3 g4 g5 g6
 have hs':∀ z,z ∈ DataW.weights Tryz.prog 9 y0.1∨z ∈ DataW.weights Tryz.prog 9 y1.1∨z ∈ DataW.weights Tryz.prog 9 y4.1∨z ∈ DataW.weights Tryz.prog 108 y6.1→z≤reachBytes:=fun z hz=>hs z (by
  simp only [List.map_cons,List.map_nil,DataW.weights,Tryz.underlying110,DataW.weightsEach,List.mem_append]
  rcases hz with hz|hz|hz|hz<;>simp [hz])
 obtain ⟨k,rfl,fk⟩:=fit_str g0 (fun z hz=>hs' z (Or.inl hz))
 obtain ⟨nm,rfl,fn⟩:=fit_str g1 (fun z hz=>hs' z (Or.inr (Or.inl hz)))
 obtain ⟨ve,rfl,wv⟩:=fit_intw g2
 obtain ⟨bo,rfl⟩:=fit_int g3
 obtain ⟨te,rfl,ft⟩:=fit_str g4 (fun z hz=>hs' z (Or.inr (Or.inr (Or.inl hz))))
 obtain ⟨en,rfl⟩:=fit_bool g5
 obtain ⟨ah,hn,ch,s,rfl,hst,fh,fs⟩:=openStrs g6 (fun z hz=>hs' z (Or.inr (Or.inr (Or.inr hz))))
 exact ⟨⟨k,nm,ve,bo,te,en,hn,s⟩,ah,ch,rfl,hst,⟨fk,fn,ft,fh,fs,wv⟩⟩
theorem openCh {H:Type} {enc:TypeId × Value→H} {W:World} {fuel:Nat} {cs:List Value} {x:DataW H × List MemPlace} (h:DataW.trod enc Tryz.prog W 0 (fun _=>true) true fuel 113 cs=some x) (hs:Fits 113 x.1) :
  ∃ (o:Ch) (ah:Option Addr) (ch:Nat),cs=[.int .i64 o.ver,.bool o.gone,.string o.ob.kind,.string o.ob.name,.int .i64 o.ob.ver,.int .i64 o.ob.born,.string o.ob.text,.bool o.ob.ending,.slice ah o.ob.hn ch]∧StrsIn W 0 W.1.size ah o.ob.hn o.ob.hs∧ObFit o.ob:=by
 obtain ⟨xs,n,_,rfl,hlen,hxl,hf⟩:=DataW.trod_struct Tryz.underlying113 h
 rw [Tryz.c113] at hlen
 obtain ⟨c0,c1,c2,c3,c4,c5,c6,c7,c8,rfl⟩:=list9 hlen
 obtain ⟨y0,y1,y2,rfl⟩:=list3 (show xs.length=3 from hxl)
 have g0:=hf 0 _ rfl
 have g1:=hf 1 _ rfl
 have g2:=hf 2 _ rfl
 simp only [List.getElem?_cons_succ,List.getElem?_cons_zero] at g0 g1 g2
 have hs':Fits 110 y2.1:=fun z hz=>hs z (by
  simp only [List.map_cons,List.map_nil,DataW.weights,Tryz.underlying113,DataW.weightsEach,List.mem_append]
  simp [hz])
 obtain ⟨ve,rfl⟩:=fit_int g0
 obtain ⟨go,rfl⟩:=fit_bool g1
 obtain ⟨o,ah,ch,hcs,hst,hfit⟩:=openOb g2 hs'
 exact ⟨⟨ve,go,o⟩,ah,ch,congrArg (fun l=>Value.int .i64 ve::Value.bool go::l) hcs,hst,hfit⟩
theorem openTi {H:Type} {enc:TypeId × Value→H} {W:World} {fuel:Nat} {cs:List Value} {x:DataW H × List MemPlace} (h:DataW.trod enc Tryz.prog W 0 (fun _=>true) true fuel 116 cs=some x) (hs:Fits 116 x.1) :
  ∃ o:Ti,cs=[.string o.client,.int .i64 o.num,.string o.print,.int .i64 o.code,.int .i64 o.ver]∧TiFit o:=by
 obtain ⟨xs,n,_,rfl,hlen,hxl,hf⟩:=DataW.trod_struct Tryz.underlying116 h
 rw [Tryz.c116] at hlen
 obtain ⟨c0,c1,c2,c3,c4,rfl⟩:=list5 hlen
 obtain ⟨y0,y1,y2,y3,y4,rfl⟩:=list5 (show xs.length=5 from hxl)
 have g0:=hf 0 _ rfl
 have g1:=hf 1 _ rfl
 have g2:=hf 2 _ rfl
 have g3:=hf 3 _ rfl
 have g4:=hf 4 _ rfl
 simp only [List.getElem?_cons_succ,List.getElem?_cons_zero] at g0 g1 g2 g3 g4
 have hs':∀ z,z ∈ DataW.weights Tryz.prog 9 y0.1∨z ∈ DataW.weights Tryz.prog 9 y2.1→z≤reachBytes:=fun z hz=>hs z (by
  simp only [List.map_cons,List.map_nil,DataW.weights,Tryz.underlying116,DataW.weightsEach,List.mem_append]
  rcases hz with hz|hz<;>simp [hz])
 obtain ⟨k,rfl,fk⟩:=fit_str g0 (fun z hz=>hs' z (Or.inl hz))
 obtain ⟨nu,rfl⟩:=fit_int g1
 obtain ⟨pr,rfl,fp⟩:=fit_str g2 (fun z hz=>hs' z (Or.inr hz))
 obtain ⟨co,rfl⟩:=fit_int g3
 obtain ⟨ve,rfl⟩:=fit_int g4
 exact ⟨⟨k,nu,pr,co,ve⟩,rfl,⟨fk,fp⟩⟩
theorem skol {β:Type} {n:Nat} (d:β) {p:Nat→β→Prop} (h:∀ i,i<n→∃ x,p i x):∃ f:Nat→β,∀ i,i<n→p i (f i):=by
 have h':∀ i,∃ x,i<n→p i x:=fun i=>by
  by_cases hi:i<n
  ·obtain ⟨x,hx⟩:=h i hi;exact ⟨x,fun _=>hx⟩
  ·exact ⟨d,fun e=>absurd e hi⟩
 obtain ⟨f,hf⟩:=Classical.skolem.1 h'
 exact ⟨f,hf⟩
theorem openSl {H:Type} {enc:TypeId × Value→H} {W:World} {fuel:Nat} {v:Value} {x:DataW H × List MemPlace} {t e:TypeId} {z:Nat} (ht:Tryz.prog.underlying t=some (.slice e)) (hz:Tryz.prog.cellsOf e=z) (hz0:0<z) (h:DataW.trod enc Tryz.prog W 0 (fun _=>true) true fuel t [v]=some x) (hs:Fits t x.1) (hb:16≤Tryz.prog.bytesOf e) :
  ∃ ad n cap,v=.slice ad n cap∧(n:Int)≤8796093022208∧∀ i,i<n→∃ (b off:Nat) (cs:List Value) (k:Nat) (y:DataW H × List MemPlace),ad=some ⟨b,off,none⟩∧b<W.1.size∧(∀ j,j<z→W.cell? ⟨b,off+i*z+j,none⟩=cs[j]?)∧DataW.trod enc Tryz.prog W 0 (fun _=>true) true k e cs=some y∧Fits e y.1:=by
 rcases open_slice ht h with ⟨hc,_⟩|⟨a,len,cap,m,n,D,Pl,hc,_,hl,_,hm,hx,hel⟩
 ·simp only [List.cons.injEq,and_true] at hc
  exact ⟨none,0,0,hc,Za,fun i hi=>absurd hi (Nat.not_lt_zero _)⟩
 ·simp only [List.cons.injEq,and_true] at hc
  simp only [if_true] at hm
  subst hm
  subst hx
  obtain ⟨f1,f2⟩:=fits_slice ht hs
  simp only [List.length_map,List.length_range,reachBytes] at f1
  have f3:(len+(m-len))*16≤140737488351232:=Nat.le_trans (Nat.mul_le_mul_left _ hb) f1
  refine ⟨some a,len,m,hc,Za,fun i hi=>?_⟩
  obtain ⟨cs,h1,h2⟩:=hel i Za
  rw [hz] at h1
  obtain ⟨_,hcl,hcc⟩:=World.cells?_some h1
  obtain ⟨cs0,h10,_⟩:=hel 0 Za
  rw [hz] at h10
  obtain ⟨_,hcl0,hcc0⟩:=World.cells?_some h10
  obtain ⟨b,off,spot⟩:=a
  have hspot:spot=none:=by
   have:=hcc0 0 hz0
   rw [List.getElem?_eq_getElem Za] at this
   simpa [Addr.add] using World.cell?_spot this
  subst hspot
  have ea:∀ j,(((⟨b,off,none⟩:Addr).add (i*z)).add j)=⟨b,off+i*z+j,none⟩:=fun j=>by simp [add_plain]
  have hb':b<W.1.size:=by
   have:=hcc 0 hz0
   rw [ea,List.getElem?_eq_getElem Za] at this
   exact cell_lt this
  exact ⟨b,off,cs,n,_,rfl,hb',fun j hj=>by rw [←ea];exact hcc j hj,h2,f2 _ (List.mem_map.2 ⟨i,List.mem_range.2 hi,rfl⟩)⟩
theorem apP390 {P:Prop} (h:P:=by
  exact ⟨ad,n,cap,xs,rfl,hn,fun i hi=>(hxs i hi).1,fun i hi=>(hxs i hi).2⟩):P:=h
theorem openObs {H:Type} {enc:TypeId × Value→H} {W:World} {fuel:Nat} {v:Value} {x:DataW H × List MemPlace} (h:DataW.trod enc Tryz.prog W 0 (fun _=>true) true fuel 22 [v]=some x) (hs:Fits 22 x.1) :
  ∃ ad n cap xs,v=.slice ad n cap∧(n:Int)≤8796093022208∧ObjsIn W 0 W.1.size ad n xs∧∀ i,i<n→ObFit (xs i):=by
 obtain ⟨ad,n,cap,rfl,hn,hel⟩:=openSl Tryz.underlying22 Tryz.c110 Za h hs (by rw [Tryz.b110];omega)
 obtain ⟨xs,hxs⟩:=skol (⟨⟨#[]⟩,⟨#[]⟩,0,0,⟨#[]⟩,false,0,fun _=>⟨#[]⟩⟩:Ob) (p:=fun i o=>(∃ b off ah ch,ad=some ⟨b,off,none⟩∧0≤b∧b<W.1.size∧ObCells W b (off+i*7) o ah ch∧StrsIn W 0 W.1.size ah o.hn o.hs)∧ObFit o) (fun i hi=>by
  obtain ⟨b,off,cs,k,y,rfl,hb,hc,ht,hf⟩:=hel i hi
  obtain ⟨o,ah,ch,rfl,hst,hfit⟩:=openOb ht hf
  exact ⟨o,⟨b,off,ah,ch,rfl,Nat.zero_le _,hb,⟨hc 0 Za,hc 1 Za,hc 2 Za,hc 3 Za,hc 4 Za,hc 5 Za,hc 6 Za⟩,hst⟩,hfit⟩)
 exact apP390
theorem openChs {H:Type} {enc:TypeId × Value→H} {W:World} {fuel:Nat} {v:Value} {x:DataW H × List MemPlace} (h:DataW.trod enc Tryz.prog W 0 (fun _=>true) true fuel 23 [v]=some x) (hs:Fits 23 x.1) :
  ∃ ad n cap xs,v=.slice ad n cap∧(n:Int)≤8796093022208∧ChgsIn W 0 W.1.size ad n xs∧∀ i,i<n→ObFit (xs i).ob:=by
 obtain ⟨ad,n,cap,rfl,hn,hel⟩:=openSl Tryz.underlying23 Tryz.c113 Za h hs (by rw [Tryz.b113];omega)
 obtain ⟨xs,hxs⟩:=skol (⟨0,false,⟨⟨#[]⟩,⟨#[]⟩,0,0,⟨#[]⟩,false,0,fun _=>⟨#[]⟩⟩⟩:Ch) (p:=fun i o=>(∃ b off ah ch,ad=some ⟨b,off,none⟩∧0≤b∧b<W.1.size∧ChCells W b (off+i*9) o ah ch∧StrsIn W 0 W.1.size ah o.ob.hn o.ob.hs)∧ObFit o.ob) (fun i hi=>by
  obtain ⟨b,off,cs,k,y,rfl,hb,hc,ht,hf⟩:=hel i hi
  obtain ⟨o,ah,ch,rfl,hst,hfit⟩:=openCh ht hf
  exact ⟨o,⟨b,off,ah,ch,rfl,Nat.zero_le _,hb,⟨hc 0 Za,hc 1 Za,hc 2 Za,hc 3 Za,hc 4 Za,hc 5 Za,hc 6 Za,hc 7 Za,hc 8 Za⟩,hst⟩,hfit⟩)
 exact apP390
theorem openTis {H:Type} {enc:TypeId × Value→H} {W:World} {fuel:Nat} {v:Value} {x:DataW H × List MemPlace} (h:DataW.trod enc Tryz.prog W 0 (fun _=>true) true fuel 24 [v]=some x) (hs:Fits 24 x.1) :
  ∃ ad n cap xs,v=.slice ad n cap∧(n:Int)≤8796093022208∧TicsIn W 0 W.1.size ad n xs∧∀ i,i<n→TiFit (xs i):=by
 obtain ⟨ad,n,cap,rfl,hn,hel⟩:=openSl Tryz.underlying24 Tryz.c116 Za h hs (by rw [Tryz.b116];omega)
 obtain ⟨xs,hxs⟩:=skol (⟨⟨#[]⟩,0,⟨#[]⟩,0,0⟩:Ti) (p:=fun i o=>(∃ b off,ad=some ⟨b,off,none⟩∧0≤b∧b<W.1.size∧TiCells W b (off+i*5) o)∧TiFit o) (fun i hi=>by
  obtain ⟨b,off,cs,k,y,rfl,hb,hc,ht,hf⟩:=hel i hi
  obtain ⟨o,rfl,hfit⟩:=openTi ht hf
  exact ⟨o,⟨b,off,rfl,Nat.zero_le _,hb,⟨hc 0 Za,hc 1 Za,hc 2 Za,hc 3 Za,hc 4 Za⟩⟩,hfit⟩)
 exact apP390
theorem openBk {H:Type} {enc:TypeId × Value→H} {W:World} {b0:Nat} {v:Value} {d:DataW H} {p:List MemPlace} (hv:Value.okWide Tryz.prog W .any b0 26 v) (h:DataW.Trod enc Tryz.prog W 0 (fun _=>true) true 26 v d p) (hs:Fits 26 d) :
  ∃ (x:Bk) (a1 a2 a3:Option Addr) (c1 c2 c3:Nat),v=.agg #[.int .i64 x.now,.int .i64 x.floor,.slice a1 x.on c1,.slice a2 x.hn c2,.slice a3 x.tn c3]∧BkIn W 0 W.1.size x a1 a2 a3∧BkFit0 x:=by
 obtain ⟨cs,rfl,hsz⟩:=okWide_struct Tryz.underlying26 hv
 obtain ⟨fuel,hf0⟩:=h
 obtain ⟨xs,n,_,hx,hlen,hxl,hf⟩:=DataW.trod_struct Tryz.underlying26 hf0
 simp only [Prod.mk.injEq] at hx
 obtain ⟨rfl,rfl⟩:=hx
 rw [Tryz.c26] at hsz
 obtain ⟨e0,e1,e2,e3,e4,he⟩:=list5 (show cs.toList.length=5 by simpa using hsz)
 obtain rfl:cs=#[e0,e1,e2,e3,e4]:=by
  apply Array.ext'
  simpa using he
 obtain ⟨y0,y1,y2,y3,y4,rfl⟩:=list5 (show xs.length=5 from hxl)
 have g0:=hf 0 _ rfl
 have g1:=hf 1 _ rfl
 have g2:=hf 2 _ rfl
 have g3:=hf 3 _ rfl
 have g4:=hf 4 _ rfl
 simp only [List.getElem?_cons_succ,List.getElem?_cons_zero] at g0 g1 g2 g3 g4
 have hs':∀ z,z ∈ DataW.weights Tryz.prog 22 y2.1∨z ∈ DataW.weights Tryz.prog 23 y3.1∨z ∈ DataW.weights Tryz.prog 24 y4.1→z≤reachBytes:=fun z hz=>hs z (by
  simp only [List.map_cons,List.map_nil,DataW.weights,Tryz.underlying26,DataW.weightsEach,List.mem_append]
  rcases hz with hz|hz|hz<;>simp [hz])
 obtain ⟨no,rfl⟩:=fit_int g0
 obtain ⟨fl,rfl⟩:=fit_int g1
 obtain ⟨a1,n1,c1,x1,rfl,b1,i1,j1⟩:=openObs g2 (fun z hz=>hs' z (Or.inl hz))
 obtain ⟨a2,n2,c2,x2,rfl,b2,i2,j2⟩:=openChs g3 (fun z hz=>hs' z (Or.inr (Or.inl hz)))
 obtain ⟨a3,n3,c3,x3,rfl,b3,i3,j3⟩:=openTis g4 (fun z hz=>hs' z (Or.inr (Or.inr hz)))
 exact ⟨⟨no,fl,n1,x1,n2,x2,n3,x3⟩,a1,a2,a3,c1,c2,c3,rfl,⟨i1,i2,i3⟩,⟨b1,b2,b3,j1,j2,j3⟩⟩
end Go.Proofs.YtllmmkchokkaaaaGreatDoor
