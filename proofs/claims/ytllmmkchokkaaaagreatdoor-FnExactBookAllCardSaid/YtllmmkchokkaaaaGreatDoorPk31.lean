import Derived.Test.YtllmmkchokkaaaaGreatDoorPk21
import Derived.Deep.AppendSrc
import Derived.Maps.AppendAt
set_option maxRecDepth 100000
namespace Go.Proofs.YtllmmkchokkaaaaGreatDoor
open Go.RowKit
theorem RowF.congr {w:World} {g m:Nat} {c d:Nat→Value} (h:RowF w g m c) (e:∀ j,j<m→c j=d j):RowF w g m d:=⟨h.lt,h.free,fun j hj=>(h.cell j hj).trans (congrArg some (e j hj))⟩
def catF (c:Nat→Value) (m:Nat) (d:Nat→Value) (j:Nat):Value:=if j<m then c j else d (j-m)
theorem rowCells_cat (c d:Nat→Value) (m k:Nat):rowCells m c ++ rowCells k d=rowCells (m+k) (catF c m d):=by
 apply List.ext_getElem
 ·simp [rowCells]
 ·intro j h1 h2
  have hj:j<m+k:=by simpa [rowCells] using h2
  rw [rowCells_at,List.getElem_append]
  unfold catF
  by_cases h:j<m
  ·rw [dif_pos (by rw [rowCells_len];exact h),rowCells_at,if_pos h]
  ·rw [dif_neg (by rw [rowCells_len];exact h),if_neg h,rowCells_at]
   simp only [rowCells_len]
theorem SrcRow.cells {P:Program} {w:World} {lo hi:Nat} {ad:Option Addr} {n z cap:Nat} {c:Nat→Value} (h:SrcRow w lo hi ad (n*z) c) (hz:0<z):(Builtin.firstCells z n (.slice ad n cap)).run P w=.ok (rowCells (n*z) c).toArray w:=by
 cases ad with
 | none=>
  have h0:n=0:=by
   rcases Nat.eq_zero_or_pos n with h0|h0
   ·exact h0
   ·obtain ⟨b,off,e,_⟩:=h.at_ 0 (Nat.mul_pos h0 hz)
    cases e
  subst h0
  rw [run_firstCells_none]
  simp [rowCells]
 | some a=>
  refine run_firstCells_some w z n a n cap _ (by rw [rowCells_len]) (fun j v hv=>?_)
  obtain ⟨h1,rfl⟩:=rowCells_get hv
  obtain ⟨b,off,e,_,_,e4⟩:=h.at_ j h1
  cases e
  rw [show ((⟨b,off,none⟩:Addr).add j)=⟨b,off+j,none⟩ by simp [Addr.add]]
  exact e4
theorem SrcRow.drew {w:World} {lo hi:Nat} {ad:Option Addr} {m:Nat} {c:Nat→Value} (h:SrcRow w lo hi ad m c):SrcRow w.drew lo hi ad m c:=⟨fun j hj=>h.at_ j hj,h.one⟩
theorem SrcRow.src {P:Program} {w:World} {lo hi:Nat} {ad:Option Addr} {n z cap:Nat} {c:Nat→Value} (h:SrcRow w lo hi ad (n*z) c) (hz:0<z) {t e:TypeId} (ht:P.underlying t=some (.slice e)):Src P z t (.slice ad n cap) n (rowCells (n*z) c) w:=
 ⟨.inl ⟨e,ht⟩,fun _=>rfl,h.cells hz,h.drew.cells hz,by rw [rowCells_len],fun u hu=>by
  obtain ⟨j,hj,rfl⟩:=List.mem_map.1 hu
  exact h.one j (by simpa using hj)⟩
theorem apP310 {P:Prop} (h:P:=by
  have:=World.frozen?_alloc_mark w.drew ((rowCells (n*z+m*z) (catF c (n*z) d)).toArray ++ Builtin.zeroCells zv.cells (grownCap w (n+m) cap e-(n+m))) e 0 0 j
  rw [show w.drew.1.size=w.1.size from rfl] at this
  simpa using this):P:=h
theorem append_grow {P:Program} (w:World) (t ty e:TypeId) (z bytes:Nat) (zv:Value) (ht:P.underlying t=some (.slice e)) (hinf:(P.info? e).map (fun i=>(i.zero,i.size,i.bytes))=some (some zv,z,bytes)) (hz:0<z)
  (lo hi lo2 hi2:Nat) (ad:Option Addr) (n cap:Nat) (c:Nat→Value) (hc:SrcRow w lo hi ad (n*z) c) (ad2:Option Addr) (m cap2:Nat) (d:Nat→Value) (hd:SrcRow w lo2 hi2 ad2 (m*z) d)
  (hg:cap<n+m) (h63:((n+m:Nat):Int)≤9223372036854775807) (hb:(n+m)*bytes≤140737488355328) :
  ∃ cap' w',(Builtin.append_ #[t,t] ty #[.slice ad n cap,.slice ad2 m cap2]).run P w=.ok (.slice (some ⟨w.1.size,0,none⟩) (n+m) cap') w'∧RowF w' w.1.size ((n+m)*z) (catF c (n*z) d)∧Below w.1.size w w'∧n+m≤cap'∧(zv.cells.size=z→Room w' w.1.size (cap'*z)):=by
 obtain ⟨i0,hi0,hz0,hz1,hz2⟩:=info_parts hinf
 have hrun:=run_append_grow_src (P:=P) w t t ty e i0 zv ht hi0 hz0 ad n cap (rowCells (n*z) c) (by rw [hz1];exact hc.drew.cells hz) (.slice ad2 m cap2) m (rowCells (m*z) d) (by rw [hz1];exact hd.src hz ht) hg h63 (growslice_fits hg (by rw [hz2];exact hb))
 rw [rowCells_cat] at hrun
 have hcg:=grownCap_ge w (n+m) cap e
 refine ⟨_,_,hrun,⟨?_,fun j=>?_,fun j hj=>?_⟩,((Below.refl _ _).drew).alloc Zbt _,hcg,fun hzs=>⟨fun j hj=>?_,fun j=>?_,?_⟩⟩
 ·rw [World.size_alloc];exact Nat.lt_succ_self _
 ·exact apP310
 ·have:=World.cell?_alloc_new w.drew ((rowCells (n*z+m*z) (catF c (n*z) d)).toArray ++ Builtin.zeroCells zv.cells (grownCap w (n+m) cap e-(n+m))) e j
  rw [show w.drew.1.size=w.1.size from rfl] at this
  have hj':j<n*z+m*z:=by rw [Nat.add_mul] at hj;exact hj
  rw [this,Array.getElem?_append_left (by simp [rowCells_len,hj']),List.getElem?_toArray,List.getElem?_eq_getElem (by rw [rowCells_len];exact hj'),rowCells_at]
 ·have:=World.cell?_alloc_new w.drew ((rowCells (n*z+m*z) (catF c (n*z) d)).toArray ++ Builtin.zeroCells zv.cells (grownCap w (n+m) cap e-(n+m))) e j
  rw [show w.drew.1.size=w.1.size from rfl] at this
  have hs:((rowCells (n*z+m*z) (catF c (n*z) d)).toArray ++ Builtin.zeroCells zv.cells (grownCap w (n+m) cap e-(n+m))).size=grownCap w (n+m) cap e*z:=by
   rw [Array.size_append,size_zeroCells,hzs,List.size_toArray,rowCells_len,←Nat.add_mul,←Nat.add_mul]
   congr 1
   omega
  rw [this,Array.getElem?_eq_getElem Za]
  exact ⟨_,rfl⟩
 ·exact apP310
 ·rw [World.size_alloc];exact Nat.lt_succ_self _
theorem append_empty {P:Program} (w:World) (t ty e:TypeId) (z bytes:Nat) (zv:Value) (ht:P.underlying t=some (.slice e)) (hinf:(P.info? e).map (fun i=>(i.zero,i.size,i.bytes))=some (some zv,z,bytes)) (hz:0<z)
  (lo hi b:Nat) (ad:Option Addr) (n cap:Nat) (c:Nat→Value) (hc:SrcRow w lo hi ad (n*z) c) (h63:(n:Int)≤9223372036854775807) (hb:n*bytes≤140737488355328) :
  ∃ ad' cap' w',(Builtin.append_ #[t,t] ty #[.slice (some ⟨b,0,none⟩) 0 0,.slice ad n cap]).run P w=.ok (.slice ad' n cap') w'∧(0<n→ad'=some ⟨w.1.size,0,none⟩∧RowF w' w.1.size (n*z) c)∧Below w.1.size w w'∧n≤cap'∧(n=0→cap'=0)∧(0<n→zv.cells.size=z→Room w' w.1.size (cap'*z))∧(∃ g,ad'=some ⟨g,0,none⟩):=by
 rcases Nat.eq_zero_or_pos n with h0|h0
 ·subst h0
  obtain ⟨i0,hi0,hz0,hz1,hz2⟩:=info_parts hinf
  have hs:Src P z t (.slice ad 0 cap) 0 [] w:=by
   have:=hc.src (cap:=cap) hz ht
   rw [Nat.zero_mul] at this
   exact this
  have hrun:=run_append_room_src (P:=P) w t t ty e i0 ht hi0 b 0 0 0 (.slice ad 0 cap) 0 [] (by rw [hz1];exact hs) Zbt (fun j hj=>absurd hj (Nat.not_lt_zero _)) (fun j hj=>absurd hj (Nat.not_lt_zero _))
  exact ⟨_,_,_,hrun,fun h=>absurd h (Nat.lt_irrefl _),Below.refl _ _,Nat.le_refl _,fun _=>rfl,fun h=>absurd h (Nat.lt_irrefl _),⟨_,rfl⟩⟩
 ·obtain ⟨cap',w',h1,h2,h3,h4,h5⟩:=append_grow (P:=P) w t ty e z bytes zv ht hinf hz 0 0 lo hi (some ⟨b,0,none⟩) 0 0 (fun _=>undef) ⟨fun j hj=>absurd hj (by rw [Nat.zero_mul];exact Nat.not_lt_zero _),fun j hj=>absurd hj (by rw [Nat.zero_mul];exact Nat.not_lt_zero _)⟩ ad n cap c hc Za Za (by rw [Nat.zero_add];exact hb)
  rw [Nat.zero_add] at h1 h2 h4
  refine ⟨_,cap',w',h1,fun _=>⟨rfl,h2.congr (fun j _=>?_)⟩,h3,h4,fun h=>absurd h Za,fun _=>h5,⟨_,rfl⟩⟩
  unfold catF
  rw [Nat.zero_mul,if_neg (Nat.not_lt_zero _),Nat.sub_zero]
structure Rw (w:World) (ad:Option Addr) (g n cap z:Nat) (c:Nat→Value):Prop where
 addr:0<cap→ad=some ⟨g,0,none⟩
 le:n≤cap
 room:0<cap→Room w g (cap*z)
 cell:∀ j,j<n*z→w.cell? ⟨g,j,none⟩=some (c j)
theorem Rw.fr {w w':World} {ad:Option Addr} {g n cap z:Nat} {c:Nat→Value} {P:Nat→Prop} (h:Rw w ad g n cap z c) (hf:FrP P w w') (hp:0<cap→¬P g):Rw w' ad g n cap z c:=
 ⟨h.addr,h.le,fun h0=>⟨fun j hj=>by
  obtain ⟨u,hu⟩:=(h.room h0).has j hj
  exact ⟨u,(hf.cell (p:=⟨g,j,none⟩) (h.room h0).lt (hp h0)).trans hu⟩,fun j=>(hf.frozen (p:=⟨g,j,none⟩) (h.room h0).lt (hp h0)).trans ((h.room h0).free j),Nat.lt_of_lt_of_le (h.room h0).lt hf.size⟩,fun j hj=>by
  have h0:0<cap:=by
   rcases Nat.eq_zero_or_pos n with e|e
   ·subst e;simp at hj
   ·exact Nat.lt_of_lt_of_le e h.le
  exact (hf.cell (p:=⟨g,j,none⟩) (h.room h0).lt (hp h0)).trans (h.cell j hj)⟩
theorem Rw.grow {w w':World} {ad:Option Addr} {g n cap z:Nat} {c:Nat→Value} (h:Rw w ad g n cap z c) (hf:Below w.1.size w w'):Rw w' ad g n cap z c:=h.fr (FrP.of_below (P:=fun _=>False) hf) (fun _ h=>h)
theorem Rw.rowF {w:World} {ad:Option Addr} {g n cap z:Nat} {c:Nat→Value} (h:Rw w ad g n cap z c) (hn:0<n):ad=some ⟨g,0,none⟩∧RowF w g (n*z) c:=
 have h0:0<cap:=Nat.lt_of_lt_of_le hn h.le
 ⟨h.addr h0,(h.room h0).lt,fun j=>(h.room h0).free j,h.cell⟩
theorem Rw.src {w:World} {ad:Option Addr} {g n cap z:Nat} {c:Nat→Value} (h:Rw w ad g n cap z c) (h1:∀ j,j<n*z→(c j).oneCell'=true):SrcRow w g (g+1) ad (n*z) c:=
 ⟨fun j hj=>by
  have hn:0<n:=Nat.pos_of_ne_zero (fun e=>by subst e;simp at hj)
  exact ⟨g,0,(h.rowF hn).1,Nat.le_refl _,Nat.lt_succ_self _,by rw [Nat.zero_add];exact h.cell j hj⟩,h1⟩
theorem append_rw {P:Program} (w:World) (t ty e:TypeId) (z bytes:Nat) (zv:Value) (ht:P.underlying t=some (.slice e)) (hinf:(P.info? e).map (fun i=>(i.zero,i.size,i.bytes))=some (some zv,z,bytes)) (hz:0<z) (hzv:zv.cells.size=z)
  (ad:Option Addr) (g n cap:Nat) (c:Nat→Value) (h:Rw w ad g n cap z c) (h1:∀ j,j<n*z→(c j).oneCell'=true) (lo2 hi2:Nat) (ad2:Option Addr) (m cap2:Nat) (d:Nat→Value) (hd:SrcRow w lo2 hi2 ad2 (m*z) d) (hm:0<m)
  (h63:((n+m:Nat):Int)≤9223372036854775807) (hb:(n+m)*bytes≤140737488355328) :
  ∃ ad' cap' g' w',(Builtin.append_ #[t,t] ty #[.slice ad n cap,.slice ad2 m cap2]).run P w=.ok (.slice ad' (n+m) cap') w'∧Rw w' ad' g' (n+m) cap' z (catF c (n*z) d)∧FrP (fun q=>0<cap∧q=g) w w'∧((0<cap∧g'=g)∨w.1.size≤g'):=by
 by_cases hroom:n+m≤cap
 ·have hc0:0<cap:=Za
  have rm:=h.room hc0
  have had:=h.addr hc0
  subst had
  obtain ⟨i0,hi0,hz0,hz1,hz2⟩:=info_parts hinf
  have hle:(n+m)*z≤cap*z:=Nat.mul_le_mul_right z hroom
  have hex:(n+m)*z=n*z+m*z:=Nat.add_mul n m z
  have hrun:=run_append_room_src (P:=P) w t t ty e i0 ht hi0 g 0 n cap (.slice ad2 m cap2) m (rowCells (m*z) d) (by rw [hz1];exact hd.src hz ht) hroom (fun j hj=>by
   rw [rowCells_len] at hj
   obtain ⟨u,hu⟩:=rm.has (n*z+j) Za
   rw [hz1,show 0+n*z+j=n*z+j by omega,hu];rfl) (fun j hj=>rm.free _)
  rw [hz1,show 0+n*z=n*z by omega] at hrun
  have hin:∀ j,j<m*z→(w.setCells g (n*z) (rowCells (m*z) d)).cell? ⟨g,n*z+j,none⟩=some (d j):=fun j hj=>by
   have:=World.cell?_setCells_in g (rowCells (m*z) d) (n*z) w (fun j hj=>by
    rw [rowCells_len] at hj
    obtain ⟨u,hu⟩:=rm.has (n*z+j) Za
    rw [hu];rfl) j (by rw [rowCells_len];exact hj)
   rw [rowCells_at] at this
   exact this
  have hout:∀ j,(j<n*z∨n*z+m*z≤j)→(w.setCells g (n*z) (rowCells (m*z) d)).cell? ⟨g,j,none⟩=w.cell? ⟨g,j,none⟩:=fun j hj=>World.cell?_setCells_out g _ (n*z) w ⟨g,j,none⟩ (fun _ _=>by rw [rowCells_len];rcases hj with hj|hj;exact Or.inl hj;exact Or.inr hj)
  refine ⟨_,_,g,_,hrun,⟨fun _=>rfl,hroom,fun _=>⟨fun j hj=>?_,fun j=>by rw [World.frozen?_setCells];exact rm.free _,by rw [size_setCells];exact rm.lt⟩,fun j hj=>?_⟩,FrP.of_fr (fr_setCells g _ (n*z) w) (fun k h1 h2=>⟨hc0,Za⟩),Or.inl ⟨hc0,rfl⟩⟩
  ·by_cases hj1:j<n*z∨n*z+m*z≤j
   ·rw [hout j hj1];exact rm.has j hj
   ·obtain ⟨q,rfl⟩:∃ q,j=n*z+q:=⟨j-n*z,Za⟩
    exact ⟨_,hin q Za⟩
  ·unfold catF
   by_cases hj1:j<n*z
   ·rw [if_pos hj1,hout j (Or.inl hj1)];exact h.cell j hj1
   ·obtain ⟨q,rfl⟩:∃ q,j=n*z+q:=⟨j-n*z,Za⟩
    rw [if_neg hj1,hin q Za,Nat.add_sub_cancel_left]
 ·obtain ⟨cap',w',hrun,hrow,hb',hle,hrm⟩:=append_grow (P:=P) w t ty e z bytes zv ht hinf hz g (g+1) lo2 hi2 ad n cap c (h.src h1) ad2 m cap2 d hd Za h63 hb
  exact ⟨_,cap',w.1.size,w',hrun,⟨fun _=>rfl,hle,fun _=>hrm hzv,fun j hj=>hrow.cell j hj⟩,FrP.of_below hb',Or.inr Zbt⟩
def insC (c:Nat→Value) (i z:Nat) (d:Nat→Value) (j:Nat):Value:=if j<i*z then c j else if j<i*z+z then d (j-i*z) else c (j-z)
theorem SrcRow.take {w:World} {lo hi:Nat} {ad:Option Addr} {m k:Nat} {c:Nat→Value} (h:SrcRow w lo hi ad m c) (hk:k≤m):SrcRow w lo hi ad k c:=⟨fun j hj=>h.at_ j Za,fun j hj=>h.one j Za⟩
theorem SrcRow.belowR {w w':World} {lo hi B:Nat} {ad:Option Addr} {m:Nat} {c:Nat→Value} (h:SrcRow w lo hi ad m c) (hb:Below B w w') (hB:hi≤B):SrcRow w' lo hi ad m c:=⟨fun j hj=>by
 obtain ⟨b,off,e1,e2,e3,e4⟩:=h.at_ j hj
 exact ⟨b,off,e1,e2,e3,(hb.cell (p:=⟨b,off+j,none⟩) (by show b<B;omega)).trans e4⟩,h.one⟩
theorem wpOp_append_run {P:Program} {ops:Array Oper} {Q:Exit→Act→World→Prop} {i:Nat} {K:Act→World→Prop} {a:Act} {w:World} {o:Oper} (ho:ops[i]? = some o) (hg:o.guard=none) (s x:Operand) (t tx:TypeId)
  (hop:o.op=.call { callee:=.builtin .append,args:=#[s,x],argTypes:=#[t,tx] }) (v xv v2:Value) (w2:World) (hs:a.eval s=v) (hx:a.eval x=xv) (hr:(Builtin.append_ #[t,tx] o.type #[v,xv]).run P w=.ok v2 w2)
  (h:K (a.put o.dst v2) w2):wpOp P ops Q i K a w:=by
 refine wpOp_of ho hg ?_
 unfold Oper.wp execOp
 simp only [hop,resolve,invoke,builtin,Sem.run_bind,Sem.run_pure,Result.andThen_ok,List.map_toArray,List.map_cons,List.map_nil,hs,hx,hr]
 exact h
structure Stg (W:World) (a b c d:Bool) (va vb vc vd:Value) (RA RB RC RD:Value→World→Prop) (X:World):Prop where
 ra:a=true→c=false→RA va X
 rb:b=true→c=false→RB vb X
 sep:a=true→b=true→c=false→∀ g h n k m,va=.slice (some ⟨g,0,none⟩) n k→0<k→vb=.slice (some ⟨h,0,none⟩) m m→g≠h
 rc:c=true→d=false→RC vc X
 rd:d=true→RD vd X
def RgA (n a b c d:Nat) (ops:Array Oper) (mk:(Nat→Value)→Array Value) (W:World) (PV:Nat→Value→Prop) (RA RB RC RD:Value→World→Prop) (Fin:Act→World→Prop) (l:Array Bool) (ac:Act) (X:World):Prop:=
 l.size=n+1∧(∀ i j,Waits ops i j→l.getD i false=true→l.getD j false=true) ∧
  (l.getD n false=true→(∀ i,i<n+1→l.getD i false=true)∧Fin ac X) ∧
  (l.getD n false=false→∃ t:Nat→Value,ac=⟨mk t,[]⟩∧Below W.1.size W X∧(∀ i,i<n→l.getD i false=true→PV i (t i))∧Stg W (l.getD a false) (l.getD b false) (l.getD c false) (l.getD d false) (t a) (t b) (t c) (t d) RA RB RC RD X)
theorem regionA {P:Program} {id:Nat} {ops:Array Oper} {Q:Exit→Act→World→Prop} {a0:Act} {W:World} (hm:P.follows .mixedOrders=true) (n a b c d:Nat) (hlt:(a<b∧b<c)∧(c<d∧d<n)) (wca:Waits ops c a) (wcb:Waits ops c b) (wdc:Waits ops d c)
  (mk:(Nat→Value)→Array Value) (t0:Nat→Value) (PV:Nat→Value→Prop) (RA RB RC RD:Value→World→Prop) (Fin:Act→World→Prop)
  (hn:ops.size=n+1) (hord:((List.range ops.size).all fun i=>match ops[i]? with|some o=>o.after.all (fun e=>decide (e.on<i))|none=>true)=true)
  (hanc:((List.range n).all fun j=>(List.range (n+1)).any fun k=>match ops[k]? with|some o=>decide (j<k)&&o.after.any (fun e=>Region.binds .any e&&e.on==j)|none=>false)=true)
  (gA:∀ v X Y,RA v X→Below X.1.size X Y→RA v Y) (gB:∀ v X Y,RB v X→Below X.1.size X Y→RB v Y) (gC:∀ v X Y,RC v X→Below X.1.size X Y→RC v Y) (gD:∀ v X Y,RD v X→Below X.1.size X Y→RD v Y)
  (bA:∀ g n k X,RA (.slice (some ⟨g,0,none⟩) n k) X→0<k→g<X.1.size) (bB:∀ h m X,RB (.slice (some ⟨h,0,none⟩) m m) X→h<X.1.size)
  (h0:a0=⟨mk t0,[]⟩)
  (sp:∀ i,i<n→i≠a→i≠b→i≠c→i≠d→∀ (t:Nat→Value) X K,Below W.1.size W X→(∀ j,Waits ops i j→PV j (t j))→(∀ v Y,PV i v→Below X.1.size X Y→K ⟨mk (updT t i v),[]⟩ Y)→wpOp P ops Q i K ⟨mk t,[]⟩ X)
  (sa:∀ (t:Nat→Value) X K,Below W.1.size W X→(∀ j,Waits ops a j→PV j (t j))→(∀ v Y,PV a v→RA v Y→(∀ g n k,v=.slice (some ⟨g,0,none⟩) n k→0<k→X.1.size≤g)→Below X.1.size X Y→K ⟨mk (updT t a v),[]⟩ Y)→wpOp P ops Q a K ⟨mk t,[]⟩ X)
  (sb:∀ (t:Nat→Value) X K,Below W.1.size W X→(∀ j,Waits ops b j→PV j (t j))→(∀ v Y,PV b v→RB v Y→(∀ h m,v=.slice (some ⟨h,0,none⟩) m m→X.1.size≤h)→Below X.1.size X Y→K ⟨mk (updT t b v),[]⟩ Y)→wpOp P ops Q b K ⟨mk t,[]⟩ X)
  (sc:∀ (t:Nat→Value) X K,Below W.1.size W X→(∀ j,Waits ops c j→PV j (t j))→RA (t a) X→RB (t b) X→(∀ g h n k m,t a=.slice (some ⟨g,0,none⟩) n k→0<k→t b=.slice (some ⟨h,0,none⟩) m m→g≠h)→(∀ v Y,PV c v→RC v Y→Below W.1.size X Y→K ⟨mk (updT t c v),[]⟩ Y)→wpOp P ops Q c K ⟨mk t,[]⟩ X)
  (sd:∀ (t:Nat→Value) X K,Below W.1.size W X→(∀ j,Waits ops d j→PV j (t j))→RC (t c) X→(∀ v Y,PV d v→RD v Y→Below W.1.size X Y→K ⟨mk (updT t d v),[]⟩ Y)→wpOp P ops Q d K ⟨mk t,[]⟩ X)
  (sl:∀ (t:Nat→Value) X K,Below W.1.size W X→(∀ j,j<n→PV j (t j))→RD (t d) X→(∀ ac Y,Fin ac Y→K ac Y)→wpOp P ops Q n K ⟨mk t,[]⟩ X)
  (hfin:∀ ac X,Fin ac X→Q .normal ac X):(Code.region id ops true).wp P Q a0 W:=by
 have hdep:∀ i j,i<n+1→Waits ops i j→j<i:=by
  rintro i j hi ⟨o,ho,e,he,_,rfl⟩
  have h1:=List.all_eq_true.1 hord i (List.mem_range.2 Za)
  rw [ho] at h1
  exact of_decide_eq_true (Array.all_eq_true_iff_forall_mem.1 h1 e he)
 refine wp_region_inv hm (RgA n a b c d ops mk W PV RA RB RC RD Fin) ?_ ?_ ?_ ?_
 ·have hz:∀ i,(Array.replicate ops.size false).getD i false=false:=fun i=>by simp [Array.getD]
  refine ⟨by simp [hn],fun i j _ h=>?_,fun h=>?_,fun _=>⟨t0,h0,(Below.refl _ _).drew,fun i _ h=>?_,?_⟩⟩
  ·rw [hz] at h;cases h
  ·rw [hz] at h;cases h
  ·rw [hz] at h;cases h
  ·simp only [hz]
   exact ⟨fun h=>Zbh,fun h=>Zbh,fun h=>Zbh,fun h=>Zbh,fun h=>Zbh⟩
 ·rintro l ac X ⟨hs,_⟩
  rw [hs,hn]
 ·rintro l ac X ⟨hs,_,h6,_⟩ hr
  have AL:=all_listed hord (by rw [hs,hn]) hr
  exact hfin ac X (h6 (AL n Za)).2
 ·rintro l ac X i ⟨hs,hcl,h6,hg⟩ hr
  obtain ⟨hu,o,ho,hall⟩:=mem_ready.1 hr
  have di:∀ j,Waits ops i j→l.getD j false=true:=by
   rintro j ⟨o',ho',e,he,hb,rfl⟩
   rw [ho] at ho'
   obtain rfl:o=o':=by simpa using ho'
   exact hall e he hb
  have hi7:i<n+1:=by
   rcases Nat.lt_or_ge i (n+1) with h|h
   ·exact h
   ·rw [Array.getElem?_eq_none Za] at ho
    cases ho
  have hui:l.getD i false=false:=by
   have:l.getD i true=false:=hu
   simpa [Array.getD,hs,hi7] using this
  have l6:l.getD n false=false:=by
   cases h:l.getD n false with
   | false=>rfl
   | true=>rw [(h6 h).1 i hi7] at hui;cases hui
  obtain ⟨t,rfl,hb,gg,S⟩:=hg l6
  have kp:∀ j,¬j=i→(l.setIfInBounds i true).getD j false=l.getD j false:=fun j hj=>by rw [getD_set Za,if_neg hj]
  have ki:(l.setIfInBounds i true).getD i false=true:=by rw [getD_set Za,if_pos rfl]
  have hs':(l.setIfInBounds i true).size=n+1:=by simp [hs]
  have ku:∀ j,l.getD j false=true→(l.setIfInBounds i true).getD j false=true:=fun j h=>by
   by_cases e:j=i
   ·subst e;exact ki
   ·rw [kp j e];exact h
  have hcl':∀ p j,Waits ops p j→(l.setIfInBounds i true).getD p false=true→(l.setIfInBounds i true).getD j false=true:=fun p j hj h=>by
   by_cases e:p=i
   ·subst e;exact ku j (di j hj)
   ·rw [kp p e] at h;exact ku j (hcl p j hj h)
  have dpv:∀ j,Waits ops i j→PV j (t j):=fun j hj=>gg j (by have:=hdep i j hi7 hj;omega) (di j hj)
  have notc:l.getD a false=false∨l.getD b false=false→l.getD c false=false:=fun h=>by
   cases hc:l.getD c false with
   | false=>rfl
   | true=>
    have h1:=hcl c a wca hc
    have h2:=hcl c b wcb hc
    rcases h with h|h
    ·rw [h] at h1;cases h1
    ·rw [h] at h2;cases h2
  have notd:l.getD c false=false→l.getD d false=false:=fun h=>by
   cases hc:l.getD d false with
   | false=>rfl
   | true=>have h1:=hcl d c wdc hc;rw [h] at h1;cases h1
  by_cases hin:i=n
  ·subst hin
   have al:=fun j hj=>anc_all (f:=fun j=>l.getD j false=true) hanc hcl di i j Za hj
   clear hr hu ho h6 hg
   refine sl t X _ hb (fun j hj=>gg j hj (al j hj)) (S.rd (al d hlt.2.2)) (fun ac Y hY=>⟨hs',hcl',fun _=>⟨fun j hj=>?_,hY⟩,fun h=>?_⟩)
   ·by_cases e:j=i
    ·subst e;exact ki
    ·exact ku j (al j Za)
   ·rw [ki] at h;cases h
  have hno:(l.setIfInBounds i true).getD n false=false:=by rw [kp n (fun e=>hin e.symm)];exact l6
  have pv':∀ v,PV i v→∀ j,j<n→(l.setIfInBounds i true).getD j false=true→PV j (updT t i v j):=fun v hv j j1 h=>by
   by_cases e:j=i
   ·subst e;rw [updT_same];exact hv
   ·rw [kp j e] at h;rw [updT_ne e];exact gg j j1 h
  have noN:∀ {p:Prop},(l.setIfInBounds i true).getD n false=true→p:=fun h=>by rw [hno] at h;cases h
  clear hr hu ho h6 hg
  by_cases ea:i=a
  ·subst ea
   have hc0:=notc (Or.inl hui)
   refine sa t X _ hb dpv (fun v Y hpv hra hnew hY=>⟨hs',hcl',fun h=>noN h,fun _=>⟨updT t i v,rfl,hb.trans (hY.mono hb.size),pv' v hpv,?_⟩⟩)
   rw [ki,kp b Za,kp c Za,kp d Za,updT_same,updT_ne (show ¬b=i by omega),updT_ne (show ¬c=i by omega),updT_ne (show ¬d=i by omega)]
   exact ⟨fun _ _=>hra,fun h1 h2=>gB _ _ _ (S.rb h1 h2) hY,fun _ h1 h2 g h n k m e1 hk e2=>by
    have h3:=hnew g n k e1 hk
    have h4:=S.rb h1 h2
    rw [e2] at h4
    have:=bB h m X h4
    omega,fun h=>(by rw [hc0] at h;cases h),fun h=>(by rw [notd hc0] at h;cases h)⟩
  by_cases eb:i=b
  ·subst eb
   have hc0:=notc (Or.inr hui)
   refine sb t X _ hb dpv (fun v Y hpv hrb hnew hY=>⟨hs',hcl',fun h=>noN h,fun _=>⟨updT t i v,rfl,hb.trans (hY.mono hb.size),pv' v hpv,?_⟩⟩)
   rw [ki,kp a Za,kp c Za,kp d Za,updT_same,updT_ne (show ¬a=i by omega),updT_ne (show ¬c=i by omega),updT_ne (show ¬d=i by omega)]
   exact ⟨fun h1 h2=>gA _ _ _ (S.ra h1 h2) hY,fun _ _=>hrb,fun h1 _ h2 g h n k m e1 hk e2=>by
    have h3:=hnew h m e2
    have h4:=S.ra h1 h2
    rw [e1] at h4
    have:=bA g n k X h4 hk
    omega,fun h=>(by rw [hc0] at h;cases h),fun h=>(by rw [notd hc0] at h;cases h)⟩
  by_cases ec:i=c
  ·subst ec
   have la:=di a wca
   have lb:=di b wcb
   have hd0:=notd hui
   refine sc t X _ hb dpv (S.ra la hui) (S.rb lb hui) (fun g h n k m e1 hk e2=>S.sep la lb hui g h n k m e1 hk e2) (fun v Y hpv hrc hY=>⟨hs',hcl',fun h=>noN h,fun _=>⟨updT t i v,rfl,hb.trans hY,pv' v hpv,?_⟩⟩)
   rw [ki,kp a Za,kp b Za,kp d Za,updT_same,updT_ne (show ¬a=i by omega),updT_ne (show ¬b=i by omega),updT_ne (show ¬d=i by omega)]
   exact ⟨fun _ h=>Zbh,fun _ h=>Zbh,fun _ _ h=>Zbh,fun _ _=>hrc,fun h=>(by rw [hd0] at h;cases h)⟩
  by_cases ed:i=d
  ·subst ed
   have lc:=di c wdc
   refine sd t X _ hb dpv (S.rc lc hui) (fun v Y hpv hrd hY=>⟨hs',hcl',fun h=>noN h,fun _=>⟨updT t i v,rfl,hb.trans hY,pv' v hpv,?_⟩⟩)
   rw [ki,kp a Za,kp b Za,kp c Za,updT_same,updT_ne (show ¬a=i by omega),updT_ne (show ¬b=i by omega),updT_ne (show ¬c=i by omega),lc]
   exact ⟨fun _ h=>Zbh,fun _ h=>Zbh,fun _ _ h=>Zbh,fun _ h=>Zbh,fun _=>hrd⟩
  ·refine sp i Za ea eb ec ed t X _ hb dpv (fun v Y hpv hY=>⟨hs',hcl',fun h=>noN h,fun _=>⟨updT t i v,rfl,hb.trans (hY.mono hb.size),pv' v hpv,?_⟩⟩)
   rw [kp a (fun e=>ea e.symm),kp b (fun e=>eb e.symm),kp c (fun e=>ec e.symm),kp d (fun e=>ed e.symm),updT_ne (fun e=>ea e.symm),updT_ne (fun e=>eb e.symm),updT_ne (fun e=>ec e.symm),updT_ne (fun e=>ed e.symm)]
   exact ⟨fun h1 h2=>gA _ _ _ (S.ra h1 h2) hY,fun h1 h2=>gB _ _ _ (S.rb h1 h2) hY,S.sep,fun h1 h2=>gC _ _ _ (S.rc h1 h2) hY,fun h1=>gD _ _ _ (S.rd h1) hY⟩
def RwV (W:World) (k z:Nat) (c:Nat→Value) (v:Value) (X:World):Prop:=∃ ad g cp,v=.slice ad k cp∧Rw X ad g k cp z c∧(0<cp→W.1.size≤g)
def ElV (W:World) (z:Nat) (d:Nat→Value) (v:Value) (X:World):Prop:=∃ b,v=.slice (some ⟨b,0,none⟩) 1 1∧W.1.size≤b∧b<X.1.size∧SrcRow X b (b+1) (some ⟨b,0,none⟩) (1*z) d
theorem RwV.grow {W X Y:World} {k z:Nat} {c:Nat→Value} {v:Value} (h:RwV W k z c v X) (hb:Below X.1.size X Y):RwV W k z c v Y:=by
 obtain ⟨ad,g,cp,e,r,l⟩:=h
 exact ⟨ad,g,cp,e,r.grow hb,l⟩
theorem ElV.grow {W X Y:World} {z:Nat} {d:Nat→Value} {v:Value} (h:ElV W z d v X) (hb:Below X.1.size X Y):ElV W z d v Y:=by
 obtain ⟨b,e,l,u,s⟩:=h
 exact ⟨b,e,l,Nat.lt_of_lt_of_le u hb.size,s.belowR hb u⟩
theorem RwV.lt {W X:World} {k z:Nat} {c:Nat→Value} {g n q:Nat} (h:RwV W k z c (.slice (some ⟨g,0,none⟩) n q) X) (hq:0<q):g<X.1.size:=by
 obtain ⟨ad,g',cp,e,r,_⟩:=h
 cases e
 have:=r.addr hq
 cases this
 exact (r.room hq).lt
theorem ElV.lt {W X:World} {z:Nat} {d:Nat→Value} {h m:Nat} (h':ElV W z d (.slice (some ⟨h,0,none⟩) m m) X):h<X.1.size:=by
 obtain ⟨b,e,_,u,_⟩:=h'
 cases e
 exact u
theorem rw_begin {P:Program} (W X:World) (hbW:Below W.1.size W X) (t ty e:TypeId) (z bytes:Nat) (zv:Value) (ht:P.underlying t=some (.slice e)) (hinf:(P.info? e).map (fun i=>(i.zero,i.size,i.bytes))=some (some zv,z,bytes)) (hz:0<z) (hzv:zv.cells.size=z)
  (lo hi b:Nat) (ad:Option Addr) (k cap:Nat) (c:Nat→Value) (hc:SrcRow X lo hi ad (k*z) c) (h63:(k:Int)≤9223372036854775807) (hb:k*bytes≤140737488355328) :
  ∃ v Y,(Builtin.append_ #[t,t] ty #[.slice (some ⟨b,0,none⟩) 0 0,.slice ad k cap]).run P X=.ok v Y∧RwV W k z c v Y∧(∀ g n q,v=.slice (some ⟨g,0,none⟩) n q→0<q→X.1.size≤g)∧Below X.1.size X Y:=by
 obtain ⟨ad',cap',w',hrun,hrow,hb',hcl,hcz,hrm,_⟩:=append_empty (P:=P) X t ty e z bytes zv ht hinf hz lo hi b ad k cap c hc h63 hb
 refine ⟨_,w',hrun,⟨ad',X.1.size,cap',rfl,⟨fun h=>?_,hcl,fun h=>?_,fun j hj=>?_⟩,fun _=>hbW.size⟩,fun g n q e hq=>?_,hb'⟩
 ·exact (hrow Za).1
 ·exact hrm Za hzv
 ·have hk:0<k:=Nat.pos_of_ne_zero (fun e=>by subst e;simp at hj)
  exact (hrow hk).2.cell j hj
 ·cases e
  have:=(hrow Za).1
  cases this
  exact Nat.le_refl _
theorem rw_more {P:Program} (W X:World) (hbW:Below W.1.size W X) (t ty e:TypeId) (z bytes:Nat) (zv:Value) (ht:P.underlying t=some (.slice e)) (hinf:(P.info? e).map (fun i=>(i.zero,i.size,i.bytes))=some (some zv,z,bytes)) (hz:0<z) (hzv:zv.cells.size=z)
  (k:Nat) (c:Nat→Value) (h1:∀ j,j<k*z→(c j).oneCell'=true) (v:Value) (h:RwV W k z c v X) (lo2 hi2:Nat) (ad2:Option Addr) (m cap2:Nat) (d:Nat→Value) (hd:SrcRow X lo2 hi2 ad2 (m*z) d) (hkm:0<k∨0<m) (h63:((k+m:Nat):Int)≤9223372036854775807) (hb:(k+m)*bytes≤140737488355328) :
  ∃ v' Y,(Builtin.append_ #[t,t] ty #[v,.slice ad2 m cap2]).run P X=.ok v' Y∧RwV W (k+m) z (catF c (k*z) d) v' Y∧Below W.1.size X Y:=by
 obtain ⟨ad,g,cp,rfl,r,l⟩:=h
 have zX:=hbW.size
 rcases Nat.eq_zero_or_pos m with h0|h0
 ·subst h0
  have hk:0<k:=Za
  have hcp:0<cp:=Nat.lt_of_lt_of_le hk r.le
  have had:=r.addr hcp
  subst had
  obtain ⟨i0,hi0,hz0,hz1,hz2⟩:=info_parts hinf
  have hs:Src P z t (.slice ad2 0 cap2) 0 [] X:=by
   have:=hd.src (cap:=cap2) hz ht
   rw [Nat.zero_mul] at this
   exact this
  have hrun:=run_append_room_src (P:=P) X t t ty e i0 ht hi0 g 0 k cp (.slice ad2 0 cap2) 0 [] (by rw [hz1];exact hs) r.le (fun j hj=>absurd hj (Nat.not_lt_zero _)) (fun j hj=>absurd hj (Nat.not_lt_zero _))
  refine ⟨_,_,hrun,⟨_,g,cp,rfl,⟨fun _=>rfl,r.le,r.room,fun j hj=>?_⟩,l⟩,Below.refl _ _⟩
  have hj':j<k*z:=hj
  rw [catF,if_pos hj']
  exact r.cell j hj'
 ·obtain ⟨ad',cap',g',w',hrun,hrw,hf,hg⟩:=append_rw (P:=P) X t ty e z bytes zv ht hinf hz hzv ad g k cp c r h1 lo2 hi2 ad2 m cap2 d hd h0 h63 hb
  refine ⟨_,w',hrun,⟨ad',g',cap',rfl,hrw,fun _=>?_⟩,hf.below (fun q hq hP=>?_) zX⟩
  ·rcases hg with ⟨h3,rfl⟩|h3
   ·exact l h3
   ·omega
  ·have:=l hP.1
   omega
theorem ins_cat (c d:Nat→Value) (k n z j:Nat) (_hk:k≤n) (_hj:j<(k+1+(n-k))*z):catF (catF c (k*z) d) ((k+1)*z) (fun j=>c (k*z+j)) j=insC c k z d j:=by
 have e1:(k+1)*z=k*z+z:=by rw [Nat.add_mul,Nat.one_mul]
 unfold catF insC
 by_cases h1:j<k*z
 ·rw [if_pos Za,if_pos h1,if_pos h1]
 ·by_cases h2:j<k*z+z
  ·rw [if_pos Za,if_neg h1,if_neg h1,if_pos h2]
  ·rw [if_neg Za,if_neg h1,if_neg h2]
   exact congrArg c Za
theorem wpOp_append_runG {P:Program} {ops:Array Oper} {Q:Exit→Act→World→Prop} {i:Nat} {K:Act→World→Prop} {a:Act} {w:World} {o:Oper} (ho:ops[i]? = some o) (hg:o.guard=none) (s x:Operand) (t tx:TypeId)
  (hop:o.op=.call { callee:=.builtin .append,args:=#[s,x],argTypes:=#[t,tx] }) {v xv v2:Value} {w2:World} (hs:a.eval s=v) (hx:a.eval x=xv) (hr:(Builtin.append_ #[t,tx] o.type #[v,xv]).run P w=.ok v2 w2) (h:K (a.put o.dst v2) w2):wpOp P ops Q i K a w:=
 wpOp_append_run ho hg s x t tx hop v xv v2 w2 hs hx hr h
end Go.Proofs.YtllmmkchokkaaaaGreatDoor
