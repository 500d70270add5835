import Derived.Test.YtokkbdlofbdljaaGreatMe
import Derived.Laws.IdiomCopy
import Derived.Laws.CopyOwn
import Derived.Test.YtokkbdlofbdljaaGreatK
import Derived.Orders
import Derived.Test.YtokkbdlofbdljaaGreatS
namespace Go.Proofs.YtokkbdlofbdljaaGreat
open Go.RowKit
set_option maxRecDepth 100000
set_option maxHeartbeats 8000000
theorem Yd {P:Program} (w:World) (dT sT ty elem:TypeId) (b o dLen dCap:Nat) (a:Addr) (sLen sCap z:Nat) (cs:List Value)
  (hu:P.underlying dT=some (.slice elem)) (hs:(P.info? elem).map (·.size)=some z) (hn:cs.length=Nat.min sLen dLen*z)
  (hsrc:∀ j v,cs[j]? = some v→w.cell? (a.add j)=some v) (hc:∀ j,j<cs.length→(w.cell? ⟨b,o+j,none⟩).isSome=true) (hf:∀ j,j<cs.length→w.frozen? ⟨b,o+j,none⟩=false) (h1:∀ v ∈ cs,v.oneCell'=true) :
  (Builtin.copy_ #[dT,sT] ty #[.slice (some ⟨b,o,none⟩) dLen dCap,.slice (some a) sLen sCap]).run P w=.ok (goInt (Nat.min sLen dLen)) (w.setCells b o cs):=by
 have hl:=run_loadCells_list (P:=P) w a cs hsrc
 have hst:=run_storeCells_cells (P:=P) b o cs 0 w (by simpa using hc) (by simpa using hf) h1
 cases hq:P.info? elem with
 | none=>simp [hq] at hs
 | some i=>
  have hi:i.size=z:=by simpa [hq] using hs
  simp [Builtin.copy_,run_underlying hu,Builtin.lenOf,Builtin.firstCells,sizeOf,typeInfo,hq,hi,←hn,hl,hst]
structure SrcRow (w:World) (lo hi:Nat) (ad:Option Addr) (m:Nat) (c:Nat→Value):Prop where
 at_:∀ j,j<m→∃ b off,ad=some ⟨b,off,none⟩∧lo≤b∧b<hi∧w.cell? ⟨b,off+j,none⟩=some (c j)
 one:∀ j,j<m→(c j).oneCell'=true
def Zg (m:Nat) (c:Nat→Value):List Value:=(List.range m).map c
theorem Zj (m:Nat) (c:Nat→Value):(Zg m c).length=m:=by simp [Zg]
theorem ZP {m:Nat} {c:Nat→Value} {j:Nat} {u:Value} (h:(Zg m c)[j]? = some u):j<m∧u=c j:=by
 simp only [Zg,List.getElem?_map] at h
 rcases Nat.lt_or_ge j m with h1|h1
 ·rw [List.getElem?_eq_getElem (by simpa using h1)] at h
  simp at h
  exact ⟨h1,h.symm⟩
 ·rw [List.getElem?_eq_none (by simpa using h1)] at h
  cases h
theorem ZG {m:Nat} {c:Nat→Value} {j:Nat} (h:j<(Zg m c).length):(Zg m c)[j]=c j:=by simp [Zg]
theorem RowF.filled {w:World} {g m:Nat} (c:Nat→Value) (h:Room w g m):RowF (w.setCells g 0 (Zg m c)) g m c:=
 ⟨by rw [ZB];exact h.lt,fun j=>by rw [World.frozen?_setCells];exact h.free j,fun j hj=>by
  have:=World.cell?_setCells_in g (Zg m c) 0 w (fun j hj=>by
   rw [Zj] at hj
   obtain ⟨u,hu⟩:=h.has j hj
   rw [Nat.zero_add,hu];rfl) j (by rw [Zj];exact hj)
  rw [Nat.zero_add,ZG] at this
  exact this⟩
def YW (z:Nat) (f:Nat→List Value) (j:Nat):Value:=(f (j / z)).getD (j % z) undef
theorem Yv {z:Nat} {f:Nat→List Value} {i k:Nat} (hk:k<z):YW z f (i*z+k)=(f i).getD k undef:=by
 unfold YW
 have h1:(i*z+k) / z=i:=by rw [Nat.add_comm,Nat.add_mul_div_right _ _ (by omega),Nat.div_eq_of_lt hk];omega
 have h2:(i*z+k) % z=k:=by rw [Nat.add_comm,Nat.add_mul_mod_self_right];exact Nat.mod_eq_of_lt hk
 rw [h1,h2]
theorem SrcRow.of {w:World} {lo hi:Nat} {ad:Option Addr} {n z:Nat} {f:Nat→List Value} (hz:0<z) (hl:∀ i,i<n→(f i).length=z)
  (h:∀ i,i<n→∃ b off,ad=some ⟨b,off,none⟩∧lo≤b∧b<hi∧∀ k,k<z→w.cell? ⟨b,off+i*z+k,none⟩=(f i)[k]?) (h1:∀ i,i<n→∀ v ∈ f i,v.oneCell'=true):SrcRow w lo hi ad (n*z) (YW z f):=by
 have key:∀ j,j<n*z→j / z<n∧j % z<z∧j=j / z*z+j % z:=fun j hj=>⟨Nat.div_lt_of_lt_mul (by rw [Nat.mul_comm];exact hj),Nat.mod_lt _ hz,by rw [Nat.mul_comm];exact (Nat.div_add_mod j z).symm⟩
 refine ⟨fun j hj=>?_,fun j hj=>?_⟩
 ·obtain ⟨k1,k2,k3⟩:=key j hj
  obtain ⟨b,off,e1,e2,e3,e4⟩:=h (j / z) k1
  refine ⟨b,off,e1,e2,e3,?_⟩
  have:=e4 (j % z) k2
  rw [show off+j / z*z+j % z=off+j by omega] at this
  rw [this,YW,List.getD_eq_getElem?_getD,List.getElem?_eq_getElem (by rw [hl _ k1];exact k2)]
  rfl
 ·obtain ⟨k1,k2,k3⟩:=key j hj
  refine h1 (j / z) k1 _ ?_
  rw [YW,List.getD_eq_getElem?_getD,List.getElem?_eq_getElem (by rw [hl _ k1];exact k2)]
  exact List.getElem_mem _
def slR (x:Nat→Sl) (i:Nat):List Value:=[.int .i64 (x i).bal,.string (x i).text]
theorem SlsIn.src {w:World} {lo hi:Nat} {ad:Option Addr} {n:Nat} {x:Nat→Sl} (h:SlsIn w lo hi ad n x):SrcRow w lo hi ad (n*2) (YW 2 (slR x)):=
 SrcRow.of (by omega) (fun _ _=>rfl) (fun i hi'=>by
  obtain ⟨b,off,e1,e2,e3,e4⟩:=h i hi'
  refine ⟨b,off,e1,e2,e3,fun k hk=>?_⟩
  rcases (show k=0∨k=1 by omega) with rfl|rfl
  ·exact e4.c0
  ·exact e4.c1) (fun i _ v hv=>by
  simp only [slR,List.mem_cons,List.not_mem_nil,or_false] at hv
  rcases hv with rfl|rfl<;>rfl)
theorem Ud (x:Nat→Sl) (i:Nat):atSl (YW 2 (slR x)) i (x i):=⟨Yv (i:=i) (k:=0) (by omega),Yv (i:=i) (k:=1) (by omega)⟩
def msR (x:Nat→Ms) (A:Nat→Option Addr) (C:Nat→Nat) (i:Nat):List Value:=[.int .i64 (x i).kind,.int .i64 (x i).from_,.int .i64 (x i).to,.int .i64 (x i).bal,.int .i64 (x i).ix,.int .i64 (x i).kn,.string (x i).text,.slice (A i) (x i).n (C i)]
theorem msR_at (x:Nat→Ms) (A:Nat→Option Addr) (C:Nat→Nat) (i:Nat):atMs (YW 8 (msR x A C)) i (x i) (A i) (C i):=⟨Yv (i:=i) (k:=0) (by omega),Yv (i:=i) (k:=1) (by omega),Yv (i:=i) (k:=2) (by omega),Yv (i:=i) (k:=3) (by omega),Yv (i:=i) (k:=4) (by omega),Yv (i:=i) (k:=5) (by omega),Yv (i:=i) (k:=6) (by omega),Yv (i:=i) (k:=7) (by omega)⟩
theorem skolC {β:Type} {n:Nat} (d:β) {p:Nat→β→Prop} (h:∀ i,i<n→∃ x,p i x):∃ f:Nat→β,∀ i,i<n→p i (f i):=by
 have h':∀ i,∃ x,i<n→p i x:=fun i=>by
  by_cases hi:i<n
  ·obtain ⟨x,hx⟩:=h i hi;exact ⟨x,fun _=>hx⟩
  ·exact ⟨d,fun e=>absurd e hi⟩
 obtain ⟨f,hf⟩:=Classical.skolem.1 h'
 exact ⟨f,hf⟩
theorem MssIn.src {w:World} {lo hi:Nat} {ad:Option Addr} {n:Nat} {x:Nat→Ms} (h:MssIn w lo hi ad n x):∃ (A:Nat→Option Addr) (C:Nat→Nat),SrcRow w lo hi ad (n*8) (YW 8 (msR x A C))∧(∀ i,i<n→SlsIn w lo hi (A i) (x i).n (x i).s):=by
 obtain ⟨F,hF⟩:=skolC (n:=n) ((none,0):(Option Addr × Nat)) (p:=fun i q=>(∃ b off,ad=some ⟨b,off,none⟩∧lo≤b∧b<hi∧MsCells w b (off+i*8) (x i) q.1 q.2)∧SlsIn w lo hi q.1 (x i).n (x i).s) (fun i hi'=>by
  obtain ⟨b,off,ah,ch,e1,e2,e3,e4,e5⟩:=h i hi'
  exact ⟨(ah,ch),⟨b,off,e1,e2,e3,e4⟩,e5⟩)
 refine ⟨fun i=>(F i).1,fun i=>(F i).2,SrcRow.of (by omega) (fun _ _=>rfl) (fun i hi'=>?_) (fun i _ v hv=>?_),fun i hi'=>(hF i hi').2⟩
 ·obtain ⟨⟨b,off,e1,e2,e3,e4⟩,_⟩:=hF i hi'
  refine ⟨b,off,e1,e2,e3,fun k hk=>?_⟩
  rcases (show k=0∨k=1∨k=2∨k=3∨k=4∨k=5∨k=6∨k=7 by omega) with rfl|rfl|rfl|rfl|rfl|rfl|rfl|rfl
  ·exact e4.c0
  ·exact e4.c1
  ·exact e4.c2
  ·exact e4.c3
  ·exact e4.c4
  ·exact e4.c5
  ·exact e4.c6
  ·exact e4.c7
 ·simp only [msR,List.mem_cons,List.not_mem_nil,or_false] at hv
  rcases hv with rfl|rfl|rfl|rfl|rfl|rfl|rfl|rfl<;>rfl
def akR (x:Nat→Ak) (A:Nat→Option Addr) (C:Nat→Nat) (i:Nat):List Value:=[.int .i64 (x i).ix,.slice (A i) (x i).n (C i)]
theorem akR_at (x:Nat→Ak) (A:Nat→Option Addr) (C:Nat→Nat) (i:Nat):atAk (YW 2 (akR x A C)) i (x i) (A i) (C i):=⟨Yv (i:=i) (k:=0) (by omega),Yv (i:=i) (k:=1) (by omega)⟩
theorem AksIn.src {w:World} {lo hi:Nat} {ad:Option Addr} {n:Nat} {x:Nat→Ak} (h:AksIn w lo hi ad n x):∃ (A:Nat→Option Addr) (C:Nat→Nat),SrcRow w lo hi ad (n*2) (YW 2 (akR x A C))∧(∀ i,i<n→IntsIn w lo hi (A i) (x i).n (x i).s):=by
 obtain ⟨F,hF⟩:=skolC (n:=n) ((none,0):(Option Addr × Nat)) (p:=fun i q=>(∃ b off,ad=some ⟨b,off,none⟩∧lo≤b∧b<hi∧AkCells w b (off+i*2) (x i) q.1 q.2)∧IntsIn w lo hi q.1 (x i).n (x i).s) (fun i hi'=>by
  obtain ⟨b,off,ah,ch,e1,e2,e3,e4,e5⟩:=h i hi'
  exact ⟨(ah,ch),⟨b,off,e1,e2,e3,e4⟩,e5⟩)
 refine ⟨fun i=>(F i).1,fun i=>(F i).2,SrcRow.of (by omega) (fun _ _=>rfl) (fun i hi'=>?_) (fun i _ v hv=>?_),fun i hi'=>(hF i hi').2⟩
 ·obtain ⟨⟨b,off,e1,e2,e3,e4⟩,_⟩:=hF i hi'
  refine ⟨b,off,e1,e2,e3,fun k hk=>?_⟩
  rcases (show k=0∨k=1 by omega) with rfl|rfl
  ·exact e4.c0
  ·exact e4.c1
 ·simp only [akR,List.mem_cons,List.not_mem_nil,or_false] at hv
  rcases hv with rfl|rfl<;>rfl
theorem StrsIn.src {w:World} {lo hi:Nat} {ad:Option Addr} {n:Nat} {s:Nat→ByteArray} (h:StrsIn w lo hi ad n s):SrcRow w lo hi ad (n*1) (fun j=>.string (s j)):=
 ⟨fun j hj=>h j (by omega),fun _ _=>rfl⟩
theorem IntsIn.src {w:World} {lo hi:Nat} {ad:Option Addr} {n:Nat} {s:Nat→Int} (h:IntsIn w lo hi ad n s):SrcRow w lo hi ad (n*1) (fun j=>.int .i64 (s j)):=
 ⟨fun j hj=>h j (by omega),fun _ _=>rfl⟩
theorem RowF.strs {w:World} {g n:Nat} {s:Nat→ByteArray} (h:RowF w g (n*1) (fun j=>.string (s j))):StrsOwn w g (g+1) (some ⟨g,0,none⟩) n s:=fun i hi=>
 ⟨g,0,rfl,lrf _,Nat.lt_succ_self _,by rw [Nat.zero_add];exact h.cell i (by omega),by rw [Nat.zero_add];exact h.free i⟩
theorem RowF.ints {w:World} {g n:Nat} {s:Nat→Int} (h:RowF w g (n*1) (fun j=>.int .i64 (s j))):IntsOwn w g (g+1) (some ⟨g,0,none⟩) n s:=fun i hi=>
 ⟨g,0,rfl,lrf _,Nat.lt_succ_self _,by rw [Nat.zero_add];exact h.cell i (by omega),by rw [Nat.zero_add];exact h.free i⟩
theorem apV1 {P:Prop} (h:P:=by
  go_ret
  exact ⟨_,rfl,fun h=>absurd h (by omega),fun _=>⟨rfl,by simpa using R1.out⟩,by simpa using R2.out.below (lrf _) (lrf _)⟩):P:=h
theorem apV4 {P:Prop} (h:P:=by
  go_wp2
  go_ret
  exact ⟨_,rfl,fun _=>rfl,fun h=>absurd h (Nat.lt_irrefl _),br _ _⟩):P:=h
theorem copySls_row (n:Nat) (c:Nat→Value) (ad:Option Addr) (cap:Nat) (w:World) (lo hi:Nat) (hhi:hi≤w.1.size) (hl:(n:Int)≤1099511627776) (hc:SrcRow w lo hi ad (n*2) c) :
  Calls Tryz.prog 103 #[.slice ad n cap] w fun e w'=>∃ ad',e=.returned (.slice ad' n n)∧(n=0→ad'=none)∧(0<n→ad'=some ⟨w.1.size,0,none⟩∧RowF w' w.1.size (n*2) c)∧Below w.1.size w w':=by
 rcases Nat.eq_zero_or_pos n with h0|hpos
 ·subst h0
  go_enter Tryz.func103,Tryz.ntmps103
  exact apV4
 ·obtain ⟨i0,hi0,hz0,hz1,hz2⟩:=info_parts Tryz.info109
  obtain ⟨b,off,rfl,hlo,hbh,_⟩:=hc.at_ 0 (by omega)
  have hne:((n:Int)==0)=false:=by simp;omega
  have hsz:(Tryz.prog.info? 109).map (·.size)=some 2:=by rw [hi0];simp [hz1]
  have HC:=hid hc
  clear hc
  go_enter Tryz.func103,Tryz.ntmps103
  go_wp2_with (first
   | (at_make;refine wpList_make_full _ rfl _ _ 32 rfl w.1.size 109 i0 _ 2 Tryz.underlying32 hi0 hz0 hz1 .i64 .i64 _ _ n rfl rfl (by omega) (by omega) (by rw [hz2];omega) (by unfold maxLen;omega) (by omega) ?_;intro w1 hown1 hgrow1;have hr1:=hid (YM hown1);have hb1:Below w.1.size w w1:=(br _ _).grown hgrow1 (lrf _) (by simp);clear hown1 hgrow1;have hrun:=Yd (P:=Tryz.prog) w1 32 32 3 109 w.1.size 0 n n ⟨b,off,none⟩ n cap 2 (Zg (n*2) c) Tryz.underlying32 hsz (by rw [Zj];simp) (by intro j u hj;obtain ⟨h1,rfl⟩:=ZP hj;obtain ⟨b',off',e',_,e3,e4⟩:=HC.out.at_ j h1;cases e';rw [show ((⟨b,off,none⟩:Addr).add j)=⟨b,off+j,none⟩ by simp [Addr.add],hb1.cell (p:=⟨b,off+j,none⟩) (by show b<_;omega)];exact e4) (by intro j hj;rw [Zj] at hj;obtain ⟨u,hu⟩:=hr1.out.has j hj;rw [Nat.zero_add,hu];rfl) (by intro j _;exact hr1.out.free _) (by intro v hv;obtain ⟨i,hi,rfl⟩:=List.mem_map.1 hv;exact HC.out.one i (by simpa using hi));have R1:=hid (RowF.filled c hr1.out);have R2:=hid ((Fr.of_below (lo:=w.1.size) (hi:=w.1.size+1) hb1).trans (Zx w.1.size (Zg (n*2) c) 0 w1));clear hr1 HC))
  exact apV1
theorem copyMss_row (n:Nat) (c:Nat→Value) (ad:Option Addr) (cap:Nat) (w:World) (lo hi:Nat) (hhi:hi≤w.1.size) (hl:(n:Int)≤1099511627776) (hc:SrcRow w lo hi ad (n*8) c) :
  Calls Tryz.prog 139 #[.slice ad n cap] w fun e w'=>∃ ad',e=.returned (.slice ad' n n)∧(n=0→ad'=none)∧(0<n→ad'=some ⟨w.1.size,0,none⟩∧RowF w' w.1.size (n*8) c)∧Below w.1.size w w':=by
 rcases Nat.eq_zero_or_pos n with h0|hpos
 ·subst h0
  go_enter Tryz.func139,Tryz.ntmps139
  exact apV4
 ·obtain ⟨i0,hi0,hz0,hz1,hz2⟩:=info_parts Tryz.info52
  obtain ⟨b,off,rfl,hlo,hbh,_⟩:=hc.at_ 0 (by omega)
  have hne:((n:Int)==0)=false:=by simp;omega
  have hsz:(Tryz.prog.info? 52).map (·.size)=some 8:=by rw [hi0];simp [hz1]
  have HC:=hid hc
  clear hc
  go_enter Tryz.func139,Tryz.ntmps139
  go_wp2_with (first
   | (at_make;refine wpList_make_full _ rfl _ _ 35 rfl w.1.size 52 i0 _ 8 Tryz.underlying35 hi0 hz0 hz1 .i64 .i64 _ _ n rfl rfl (by omega) (by omega) (by rw [hz2];omega) (by unfold maxLen;omega) (by omega) ?_;intro w1 hown1 hgrow1;have hr1:=hid (YM hown1);have hb1:Below w.1.size w w1:=(br _ _).grown hgrow1 (lrf _) (by simp);clear hown1 hgrow1;have hrun:=Yd (P:=Tryz.prog) w1 35 35 3 52 w.1.size 0 n n ⟨b,off,none⟩ n cap 8 (Zg (n*8) c) Tryz.underlying35 hsz (by rw [Zj];simp) (by intro j u hj;obtain ⟨h1,rfl⟩:=ZP hj;obtain ⟨b',off',e',_,e3,e4⟩:=HC.out.at_ j h1;cases e';rw [show ((⟨b,off,none⟩:Addr).add j)=⟨b,off+j,none⟩ by simp [Addr.add],hb1.cell (p:=⟨b,off+j,none⟩) (by show b<_;omega)];exact e4) (by intro j hj;rw [Zj] at hj;obtain ⟨u,hu⟩:=hr1.out.has j hj;rw [Nat.zero_add,hu];rfl) (by intro j _;exact hr1.out.free _) (by intro v hv;obtain ⟨i,hi,rfl⟩:=List.mem_map.1 hv;exact HC.out.one i (by simpa using hi));have R1:=hid (RowF.filled c hr1.out);have R2:=hid ((Fr.of_below (lo:=w.1.size) (hi:=w.1.size+1) hb1).trans (Zx w.1.size (Zg (n*8) c) 0 w1));clear hr1 HC))
  exact apV1
theorem copyStrs_row (n:Nat) (c:Nat→Value) (ad:Option Addr) (cap:Nat) (w:World) (lo hi:Nat) (hhi:hi≤w.1.size) (hl:(n:Int)≤1099511627776) (hc:SrcRow w lo hi ad (n*1) c) :
  Calls Tryz.prog 101 #[.slice ad n cap] w fun e w'=>∃ ad',e=.returned (.slice ad' n n)∧(n=0→ad'=none)∧(0<n→ad'=some ⟨w.1.size,0,none⟩∧RowF w' w.1.size (n*1) c)∧Below w.1.size w w':=by
 rcases Nat.eq_zero_or_pos n with h0|hpos
 ·subst h0
  go_enter Tryz.func101,Tryz.ntmps101
  exact apV4
 ·obtain ⟨i0,hi0,hz0,hz1,hz2⟩:=info_parts Tryz.info9
  obtain ⟨b,off,rfl,hlo,hbh,_⟩:=hc.at_ 0 (by omega)
  have hne:((n:Int)==0)=false:=by simp;omega
  have hsz:(Tryz.prog.info? 9).map (·.size)=some 1:=by rw [hi0];simp [hz1]
  have HC:=hid hc
  clear hc
  go_enter Tryz.func101,Tryz.ntmps101
  go_wp2_with (first
   | (at_make;refine wpList_make_full _ rfl _ _ 26 rfl w.1.size 9 i0 _ 1 Tryz.underlying26 hi0 hz0 hz1 .i64 .i64 _ _ n rfl rfl (by omega) (by omega) (by rw [hz2];omega) (by unfold maxLen;omega) (by omega) ?_;intro w1 hown1 hgrow1;have hr1:=hid (YM hown1);have hb1:Below w.1.size w w1:=(br _ _).grown hgrow1 (lrf _) (by simp);clear hown1 hgrow1;have hrun:=Yd (P:=Tryz.prog) w1 26 26 3 9 w.1.size 0 n n ⟨b,off,none⟩ n cap 1 (Zg (n*1) c) Tryz.underlying26 hsz (by rw [Zj];simp) (by intro j u hj;obtain ⟨h1,rfl⟩:=ZP hj;obtain ⟨b',off',e',_,e3,e4⟩:=HC.out.at_ j h1;cases e';rw [show ((⟨b,off,none⟩:Addr).add j)=⟨b,off+j,none⟩ by simp [Addr.add],hb1.cell (p:=⟨b,off+j,none⟩) (by show b<_;omega)];exact e4) (by intro j hj;rw [Zj] at hj;obtain ⟨u,hu⟩:=hr1.out.has j hj;rw [Nat.zero_add,hu];rfl) (by intro j _;exact hr1.out.free _) (by intro v hv;obtain ⟨i,hi,rfl⟩:=List.mem_map.1 hv;exact HC.out.one i (by simpa using hi));have R1:=hid (RowF.filled c hr1.out);have R2:=hid ((Fr.of_below (lo:=w.1.size) (hi:=w.1.size+1) hb1).trans (Zx w.1.size (Zg (n*1) c) 0 w1));clear hr1 HC))
  exact apV1
theorem copyInts_row (n:Nat) (c:Nat→Value) (ad:Option Addr) (cap:Nat) (w:World) (lo hi:Nat) (hhi:hi≤w.1.size) (hl:(n:Int)≤1099511627776) (hc:SrcRow w lo hi ad (n*1) c) :
  Calls Tryz.prog 102 #[.slice ad n cap] w fun e w'=>∃ ad',e=.returned (.slice ad' n n)∧(n=0→ad'=none)∧(0<n→ad'=some ⟨w.1.size,0,none⟩∧RowF w' w.1.size (n*1) c)∧Below w.1.size w w':=by
 rcases Nat.eq_zero_or_pos n with h0|hpos
 ·subst h0
  go_enter Tryz.func102,Tryz.ntmps102
  exact apV4
 ·obtain ⟨i0,hi0,hz0,hz1,hz2⟩:=info_parts Tryz.info3
  obtain ⟨b,off,rfl,hlo,hbh,_⟩:=hc.at_ 0 (by omega)
  have hne:((n:Int)==0)=false:=by simp;omega
  have hsz:(Tryz.prog.info? 3).map (·.size)=some 1:=by rw [hi0];simp [hz1]
  have HC:=hid hc
  clear hc
  go_enter Tryz.func102,Tryz.ntmps102
  go_wp2_with (first
   | (at_make;refine wpList_make_full _ rfl _ _ 27 rfl w.1.size 3 i0 _ 1 Tryz.underlying27 hi0 hz0 hz1 .i64 .i64 _ _ n rfl rfl (by omega) (by omega) (by rw [hz2];omega) (by unfold maxLen;omega) (by omega) ?_;intro w1 hown1 hgrow1;have hr1:=hid (YM hown1);have hb1:Below w.1.size w w1:=(br _ _).grown hgrow1 (lrf _) (by simp);clear hown1 hgrow1;have hrun:=Yd (P:=Tryz.prog) w1 27 27 3 3 w.1.size 0 n n ⟨b,off,none⟩ n cap 1 (Zg (n*1) c) Tryz.underlying27 hsz (by rw [Zj];simp) (by intro j u hj;obtain ⟨h1,rfl⟩:=ZP hj;obtain ⟨b',off',e',_,e3,e4⟩:=HC.out.at_ j h1;cases e';rw [show ((⟨b,off,none⟩:Addr).add j)=⟨b,off+j,none⟩ by simp [Addr.add],hb1.cell (p:=⟨b,off+j,none⟩) (by show b<_;omega)];exact e4) (by intro j hj;rw [Zj] at hj;obtain ⟨u,hu⟩:=hr1.out.has j hj;rw [Nat.zero_add,hu];rfl) (by intro j _;exact hr1.out.free _) (by intro v hv;obtain ⟨i,hi,rfl⟩:=List.mem_map.1 hv;exact HC.out.one i (by simpa using hi));have R1:=hid (RowF.filled c hr1.out);have R2:=hid ((Fr.of_below (lo:=w.1.size) (hi:=w.1.size+1) hb1).trans (Zx w.1.size (Zg (n*1) c) 0 w1));clear hr1 HC))
  exact apV1
theorem copyAks_row (n:Nat) (c:Nat→Value) (ad:Option Addr) (cap:Nat) (w:World) (lo hi:Nat) (hhi:hi≤w.1.size) (hl:(n:Int)≤1099511627776) (hc:SrcRow w lo hi ad (n*2) c) :
  Calls Tryz.prog 104 #[.slice ad n cap] w fun e w'=>∃ ad',e=.returned (.slice ad' n n)∧(n=0→ad'=none)∧(0<n→ad'=some ⟨w.1.size,0,none⟩∧RowF w' w.1.size (n*2) c)∧Below w.1.size w w':=by
 rcases Nat.eq_zero_or_pos n with h0|hpos
 ·subst h0
  go_enter Tryz.func104,Tryz.ntmps104
  exact apV4
 ·obtain ⟨i0,hi0,hz0,hz1,hz2⟩:=info_parts Tryz.info108
  obtain ⟨b,off,rfl,hlo,hbh,_⟩:=hc.at_ 0 (by omega)
  have hne:((n:Int)==0)=false:=by simp;omega
  have hsz:(Tryz.prog.info? 108).map (·.size)=some 2:=by rw [hi0];simp [hz1]
  have HC:=hid hc
  clear hc
  go_enter Tryz.func104,Tryz.ntmps104
  go_wp2_with (first
   | (at_make;refine wpList_make_full _ rfl _ _ 36 rfl w.1.size 108 i0 _ 2 Tryz.underlying36 hi0 hz0 hz1 .i64 .i64 _ _ n rfl rfl (by omega) (by omega) (by rw [hz2];omega) (by unfold maxLen;omega) (by omega) ?_;intro w1 hown1 hgrow1;have hr1:=hid (YM hown1);have hb1:Below w.1.size w w1:=(br _ _).grown hgrow1 (lrf _) (by simp);clear hown1 hgrow1;have hrun:=Yd (P:=Tryz.prog) w1 36 36 3 108 w.1.size 0 n n ⟨b,off,none⟩ n cap 2 (Zg (n*2) c) Tryz.underlying36 hsz (by rw [Zj];simp) (by intro j u hj;obtain ⟨h1,rfl⟩:=ZP hj;obtain ⟨b',off',e',_,e3,e4⟩:=HC.out.at_ j h1;cases e';rw [show ((⟨b,off,none⟩:Addr).add j)=⟨b,off+j,none⟩ by simp [Addr.add],hb1.cell (p:=⟨b,off+j,none⟩) (by show b<_;omega)];exact e4) (by intro j hj;rw [Zj] at hj;obtain ⟨u,hu⟩:=hr1.out.has j hj;rw [Nat.zero_add,hu];rfl) (by intro j _;exact hr1.out.free _) (by intro v hv;obtain ⟨i,hi,rfl⟩:=List.mem_map.1 hv;exact HC.out.one i (by simpa using hi));have R1:=hid (RowF.filled c hr1.out);have R2:=hid ((Fr.of_below (lo:=w.1.size) (hi:=w.1.size+1) hb1).trans (Zx w.1.size (Zg (n*2) c) 0 w1));clear hr1 HC))
  exact apV1
theorem XH (n:Nat) (x:Nat→Sl) (ad:Option Addr) (cap:Nat) (w:World) (lo hi:Nat) (hhi:hi≤w.1.size) (hl:(n:Int)≤1099511627776) (hc:SlsIn w lo hi ad n x) :
  Calls Tryz.prog 103 #[.slice ad n cap] w fun e w'=>∃ ad',e=.returned (.slice ad' n n)∧SlsAt w' ad' w.1.size n x∧(n≠0→w.1.size<w'.1.size)∧Below w.1.size w w'∧(n=0→ad'=none):=
 (copySls_row n _ ad cap w lo hi hhi hl hc.src).mono fun e w' ⟨ad',e1,e0,e2,e3⟩=>⟨ad',e1,⟨fun h0=>(e2 h0).1,fun h0=>⟨_,(e2 h0).2,fun i _=>Ud x i⟩⟩,fun h0=>(e2 (by omega)).2.lt,e3,e0⟩
theorem copyStrs_own (n:Nat) (x:Nat→ByteArray) (ad:Option Addr) (cap:Nat) (w:World) (lo hi:Nat) (hhi:hi≤w.1.size) (hl:(n:Int)≤1099511627776) (hc:StrsIn w lo hi ad n x) :
  Calls Tryz.prog 101 #[.slice ad n cap] w fun e w'=>∃ ad',e=.returned (.slice ad' n n)∧StrsOwn w' w.1.size (w.1.size+1) ad' n x∧(n≠0→w.1.size<w'.1.size)∧Below w.1.size w w'∧(n=0→ad'=none):=
 (copyStrs_row n _ ad cap w lo hi hhi hl hc.src).mono fun e w' ⟨ad',e1,e0,e2,e3⟩=>⟨ad',e1,fun i hi=>by obtain ⟨h1,h2⟩:=e2 (by omega);subst h1;exact h2.strs i hi,fun h0=>(e2 (by omega)).2.lt,e3,e0⟩
theorem Ki (n:Nat) (x:Nat→Int) (ad:Option Addr) (cap:Nat) (w:World) (lo hi:Nat) (hhi:hi≤w.1.size) (hl:(n:Int)≤1099511627776) (hc:IntsIn w lo hi ad n x) :
  Calls Tryz.prog 102 #[.slice ad n cap] w fun e w'=>∃ ad',e=.returned (.slice ad' n n)∧IntsOwn w' w.1.size (w.1.size+1) ad' n x∧(n≠0→w.1.size<w'.1.size)∧Below w.1.size w w'∧(n=0→ad'=none):=
 (copyInts_row n _ ad cap w lo hi hhi hl hc.src).mono fun e w' ⟨ad',e1,e0,e2,e3⟩=>⟨ad',e1,fun i hi=>by obtain ⟨h1,h2⟩:=e2 (by omega);subst h1;exact h2.ints i hi,fun h0=>(e2 (by omega)).2.lt,e3,e0⟩
end Go.Proofs.YtokkbdlofbdljaaGreat
namespace Go.Proofs.YtokkbdlofbdljaaGreat
open Go.RowKit
def updF {α:Type} (f:Nat→α) (k:Nat) (v:α):Nat→α:=fun i=>if i=k then v else f i
theorem Zm {α:Type} (f:Nat→α) (k:Nat) (v:α):updF f k v k=v:=if_pos rfl
theorem Zn {α:Type} (f:Nat→α) {k i:Nat} (v:α) (h:¬i=k):updF f k v i=f i:=if_neg h
structure CpMs (w:World) (g n k:Nat) (x:Nat→Ms) (A0 A:Nat→Option Addr) (C hb:Nat→Nat):Prop where
 row:0<n→∃ c,RowF w g (n*8) c∧∀ i,i<n→atMs c i (x i) (A i) (C i)
 src:∀ i,k≤i→i<n→A i=A0 i
 hold:∀ i,i<k→SlsAt w (A i) (hb i) (x i).n (x i).s
 hlt:∀ i,i<k→(x i).n≠0→g<hb i∧hb i<w.1.size
 inj:∀ i j,i<k→j<k→(x i).n≠0→(x j).n≠0→hb i=hb j→i=j
theorem apV6 {P:Prop} (h:P:=by
  by_cases e:i=k
  ·subst e
   rw [Zm,Zm]
   exact ho.frP (P:=fun q=>q=g) F (fun h0=>⟨by omega,hlt' h0⟩)
  ·rw [Zn _ _ e,Zn _ _ e]
   exact (h.hold i (by omega)).frP (P:=fun q=>q=g) ((FrP.of_below hb1).trans F) (fun h0=>⟨fun e=>Nat.lt_irrefl _ (e▸(h.hlt i (by omega) h0).1),(h.hlt i (by omega) h0).2⟩)):P:=h
theorem apV7 {P:Prop} (h:P:=by
  by_cases e1:i=k
  ·by_cases e2:j=k
   ·rw [e1,e2]
   ·subst e1
    rw [Zm,Zn _ _ e2] at e
    have:=(h.hlt j (by omega) h1).2
    omega
  ·by_cases e2:j=k
   ·subst e2
    rw [Zm,Zn _ _ e1] at e
    have:=(h.hlt i (by omega) h0).2
    omega
   ·rw [Zn _ _ e1,Zn _ _ e2] at e
    exact h.inj i j (by omega) (by omega) h0 h1 e):P:=h
theorem apV8 {P:Prop} (h:P:=by
  simp only [World.size_setCell]
  by_cases e:i=k
  ·subst e
   rw [Zm]
   exact ⟨by omega,hlt' h0⟩
  ·rw [Zn _ _ e]
   exact ⟨(h.hlt i (by omega) h0).1,ltl (h.hlt i (by omega) h0).2 hb1.size⟩):P:=h
theorem CpMs.put {w w1:World} {g n k:Nat} {x:Nat→Ms} {A0 A:Nat→Option Addr} {C hb:Nat→Nat} (h:CpMs w g n k x A0 A C hb) (hk:k<n) (hb1:Below w.1.size w w1) {ad':Option Addr} {cap' b':Nat} (hb':w.1.size≤b') (hlt':(x k).n≠0→b'<w1.1.size) (ho:SlsAt w1 ad' b' (x k).n (x k).s) :
  CpMs (w1.setCell ⟨g,k*8+7,none⟩ (.slice ad' (x k).n cap')) g n (k+1) x A0 (updF A k ad') (updF C k cap') (updF hb k b'):=by
 obtain ⟨c,r,hat⟩:=h.row (by omega)
 have hgw:=r.lt
 have F:FrP (fun q=>q=g) w1 (w1.setCell ⟨g,k*8+7,none⟩ (.slice ad' (x k).n cap')):=(FrP.refl (fun q=>q=g) w1).setCell (p:=⟨g,k*8+7,none⟩) rfl _
 refine ⟨fun _=>⟨_,((r.below hb1 hgw).set (o:=k*8+7) (by omega) _),fun i hi=>?_⟩,fun i h1 h2=>?_,fun i hi=>?_,fun i hi h0=>?_,fun i j hi hj h0 h1 e=>?_⟩
 ·by_cases e:i=k
  ·subst e
   have a0:=hat i hi
   rw [Zm,Zm]
   obtain ⟨a0,a1,a2,a3,a4,a5,a6,a7⟩:=a0
   exact ⟨(if_neg (by omega)).trans a0,(if_neg (by omega)).trans a1,(if_neg (by omega)).trans a2,(if_neg (by omega)).trans a3,(if_neg (by omega)).trans a4,(if_neg (by omega)).trans a5,(if_neg (by omega)).trans a6,if_pos rfl⟩
  ·rw [Zn _ _ e,Zn _ _ e]
   exact Xe (hat i hi) e (k:=k) (by omega) (by omega) _
 ·rw [Zn _ _ (by omega)]
  exact h.src i (by omega) h2
 ·exact apV6
 ·exact apV8
 ·exact apV7
theorem CpMs.done {w:World} {ad:Option Addr} {g n:Nat} {x:Nat→Ms} {A0 A:Nat→Option Addr} {C hb:Nat→Nat} (h:CpMs w g n n x A0 A C hb) (ha:0<n→ad=some ⟨g,0,none⟩):MssAt w ad g n x A C hb:=
 ⟨ha,h.row,h.hold,fun i hi h0=>(h.hlt i hi h0).2,⟨fun i hi h0 e=>Nat.lt_irrefl _ (e▸(h.hlt i hi h0).1),h.inj⟩⟩
theorem CpMs.rng {w:World} {g n:Nat} {x:Nat→Ms} {A0 A:Nat→Option Addr} {C hb:Nat→Nat} (h:CpMs w g n n x A0 A C hb) {k:Nat} (hk:blkH g n (fun i=>(x i).n) hb k):g≤k∧k<w.1.size:=by
 rcases hk with ⟨h0,rfl⟩|⟨i,hi,h0,rfl⟩
 ·obtain ⟨c,r,_⟩:=h.row h0;exact ⟨lrf _,r.lt⟩
 ·exact ⟨Nat.le_of_lt (h.hlt i hi h0).1,(h.hlt i hi h0).2⟩
structure CpAk (w:World) (g n k:Nat) (x:Nat→Ak) (A0 A:Nat→Option Addr) (C hb:Nat→Nat):Prop where
 row:0<n→∃ c,RowF w g (n*2) c∧∀ i,i<n→atAk c i (x i) (A i) (C i)
 src:∀ i,k≤i→i<n→A i=A0 i
 hold:∀ i,i<k→IntsOwn w (hb i) ((hb i)+1) (A i) (x i).n (x i).s
 hlt:∀ i,i<k→(x i).n≠0→g<hb i∧hb i<w.1.size
 inj:∀ i j,i<k→j<k→(x i).n≠0→(x j).n≠0→hb i=hb j→i=j
theorem CpAk.put {w w1:World} {g n k:Nat} {x:Nat→Ak} {A0 A:Nat→Option Addr} {C hb:Nat→Nat} (h:CpAk w g n k x A0 A C hb) (hk:k<n) (hb1:Below w.1.size w w1) {ad':Option Addr} {cap' b':Nat} (hb':w.1.size≤b') (hlt':(x k).n≠0→b'<w1.1.size) (ho:IntsOwn w1 b' (b'+1) ad' (x k).n (x k).s) :
  CpAk (w1.setCell ⟨g,k*2+1,none⟩ (.slice ad' (x k).n cap')) g n (k+1) x A0 (updF A k ad') (updF C k cap') (updF hb k b'):=by
 obtain ⟨c,r,hat⟩:=h.row (by omega)
 have hgw:=r.lt
 have F:FrP (fun q=>q=g) w1 (w1.setCell ⟨g,k*2+1,none⟩ (.slice ad' (x k).n cap')):=(FrP.refl (fun q=>q=g) w1).setCell (p:=⟨g,k*2+1,none⟩) rfl _
 refine ⟨fun _=>⟨_,((r.below hb1 hgw).set (o:=k*2+1) (by omega) _),fun i hi=>?_⟩,fun i h1 h2=>?_,fun i hi=>?_,fun i hi h0=>?_,fun i j hi hj h0 h1 e=>?_⟩
 ·by_cases e:i=k
  ·subst e
   have a0:=hat i hi
   rw [Zm,Zm]
   obtain ⟨a0,a1⟩:=a0
   exact ⟨(if_neg (by omega)).trans a0,if_pos rfl⟩
  ·rw [Zn _ _ e,Zn _ _ e]
   exact atAk_set (hat i hi) e (k:=k) (by omega) (by omega) _
 ·rw [Zn _ _ (by omega)]
  exact h.src i (by omega) h2
 ·exact apV6
 ·exact apV8
 ·exact apV7
theorem CpAk.done {w:World} {ad:Option Addr} {g n:Nat} {x:Nat→Ak} {A0 A:Nat→Option Addr} {C hb:Nat→Nat} (h:CpAk w g n n x A0 A C hb) (ha:0<n→ad=some ⟨g,0,none⟩):AksAt w ad g n x A C hb:=
 ⟨ha,h.row,h.hold,fun i hi h0=>(h.hlt i hi h0).2,⟨fun i hi h0 e=>Nat.lt_irrefl _ (e▸(h.hlt i hi h0).1),h.inj⟩⟩
theorem CpAk.rng {w:World} {g n:Nat} {x:Nat→Ak} {A0 A:Nat→Option Addr} {C hb:Nat→Nat} (h:CpAk w g n n x A0 A C hb) {k:Nat} (hk:blkH g n (fun i=>(x i).n) hb k):g≤k∧k<w.1.size:=by
 rcases hk with ⟨h0,rfl⟩|⟨i,hi,h0,rfl⟩
 ·obtain ⟨c,r,_⟩:=h.row h0;exact ⟨lrf _,r.lt⟩
 ·exact ⟨Nat.le_of_lt (h.hlt i hi h0).1,(h.hlt i hi h0).2⟩
theorem copyMss_own (n:Nat) (x:Nat→Ms) (a:Option Addr) (c:Nat) (w:World) (lo hi:Nat) (hhi:hi≤w.1.size) (hn:(n:Int)≤1048576) (hf:∀ i,i<n→((x i).n:Int)≤1048576) (hc:MssIn w lo hi a n x) :
  Calls Tryz.prog 100 #[.slice a n c] w fun e w'=>∃ ad' A C hb,e=.returned (.slice ad' n n)∧MssAt w' ad' w.1.size n x A C hb∧(∀ q,blkH w.1.size n (fun i=>(x i).n) hb q→w.1.size≤q∧q<w'.1.size)∧Below w.1.size w w':=by
 obtain ⟨Ao,Co,so,sto⟩:=hc.src
 have SO:=hid so
 have HO:=hid sto
 have F4:=hid hf
 clear so sto hc hf
 go_enter Tryz.func100,Tryz.ntmps100
 go_wp2_with fail
 refine (copyMss_row n _ a c _ lo hi hhi (by omega) SO.out).mono ?_
 rintro e w1 ⟨ad1,rfl,_,hr1,hb1⟩
 have HR1:=hid hr1
 have B1:=hb1
 have HA1:Hid (0<n→ad1=some ⟨w.1.size,0,none⟩):=fun h0=>(HR1.out h0).1
 have cp0:CpMs w1 w.1.size n 0 x Ao Ao Co (fun _=>0):=
  ⟨fun h0=>⟨_,(HR1.out h0).2,fun i _=>msR_at x Ao Co i⟩,fun _ _ _=>rfl,fun i hi=>absurd hi (nlz _),fun i hi=>absurd hi (nlz _),fun i j hi=>absurd hi (nlz _)⟩
 clear hr1 hb1
 go_wp2
 go_loopw [10] (fun i wr=>∃ (k:Nat) (A:Nat→Option Addr) (C hb:Nat→Nat),k≤n∧i=.int .i64 k∧Below w.1.size w wr∧CpMs wr w.1.size n k x Ao A C hb) (fun i _=>n-(intOf i).toNat)
 case atStart=>exact ⟨0,_,_,_,zle _,rfl,B1,cp0⟩
 case round=>
  obtain ⟨k,A,C,hb,hk,rfl,b0,cp⟩:=hrel
  clear cp0
  by_cases hkn:k<n
  ·obtain ⟨c,rr,hat⟩:=cp.row (by omega)
   have hA:=HA1.out (by omega)
   subst hA
   obtain ⟨t0,t1,t2,t3,t4,t5,t6,t7⟩:=hat k hkn
   have d0:=(rr.cell (k*8) (by omega)).trans (congrArg some t0)
   have d1:=(rr.cell (k*8+1) (by omega)).trans (congrArg some t1)
   have d2:=(rr.cell (k*8+2) (by omega)).trans (congrArg some t2)
   have d3:=(rr.cell (k*8+3) (by omega)).trans (congrArg some t3)
   have d4:=(rr.cell (k*8+4) (by omega)).trans (congrArg some t4)
   have d5:=(rr.cell (k*8+5) (by omega)).trans (congrArg some t5)
   have d6:=(rr.cell (k*8+6) (by omega)).trans (congrArg some t6)
   have d7:=(rr.cell (k*8+7) (by omega)).trans (congrArg some t7)
   have hsrc:=HO.out k hkn
   rw [←cp.src k (lrf _) hkn] at hsrc
   have HSR:=hid hsrc
   have hfk:((x k).n:Int)≤1048576:=F4.out k hkn
   have CP:=hid cp
   have RR:=hid rr
   have hwz:w.1.size<wr.1.size:=rr.lt
   clear t0 t1 t2 t3 t4 t5 t6 t7 hsrc cp rr hat
   go_wp2_with (go_at_call 103;go_must (refine (XH (x k).n (x k).s (A k) (C k) _ lo hi (by simp;omega) (by omega) (by exact HSR.out.below (b0.alloc b0.size _) hhi)).mono ?_;rintro e w2 ⟨ad',rfl,ho',hlt',hb2,_⟩;have hb3:Below wr.1.size wr w2:=((Zb _ _).trans (hb2.mono (by simp)));have rg:=RR.out.below hb3 RR.out.lt;have s7:=rg.cell (k*8+7) (by omega);have sf:=rg.free;have HB3:=hid hb3;have HOO:=hid ho';have HLT:=hid hlt';clear rg hb3 ho' hlt' hb2))
   have CPP:=hid (CP.out.put hkn HB3.out (cap':=(x k).n) (b':=_) (by simp) HLT.out HOO.out)
   have hz3:=HB3.out.size
   clear s7 sf d0 d1 d2 d3 d4 d5 d6 d7
   go_roundw
   case rel=>exact ⟨k+1,_,_,_,by omega,by go_num,(b0.trans (HB3.out.mono (by omega))).setCell (by simp) _,CPP.out⟩
   case measure=>simp [intOf];omega
  ·have hke:k=n:=by omega
   subst hke
   have CPO:=hid cp
   clear cp
   go_wp2
   go_ret
   exact ⟨ad1,A,C,hb,rfl,CPO.out.done HA1.out,fun q hq=>CPO.out.rng hq,b0⟩
theorem wpOp_mono {P:Program} {ops:Array Oper} {Q:Exit→Act→World→Prop} {i:Nat} {K K':Act→World→Prop} {a:Act} {w:World} (h:∀ a w,K a w→K' a w) (hh:wpOp P ops Q i K a w):wpOp P ops Q i K' a w:=by
 unfold wpOp at *
 split at hh
 ·exact h _ _ hh
 ·split at hh
  ·next hw=>
   rw [if_pos hw]
   rcases hh with hh|hh
   ·exact Or.inl (Oper.wp_mono h hh)
   ·exact Or.inr hh
  ·next hw=>
   rw [if_neg hw]
   exact h _ _ hh
def cnt (l:Array Bool):Nat→Nat
 | 0=>0
 | n+1=>cnt l n+(if l.getD n true then 0 else 1)
theorem Yl {l:Array Bool} {i j:Nat} (hi:i<l.size) (d:Bool):(l.setIfInBounds i true).getD j d=if j=i then true else l.getD j d:=by
 by_cases h:j=i
 ·subst h
  simp [Array.getD,hi]
 ·rw [if_neg h,Array.getD_eq_getD_getElem?,Array.getD_eq_getD_getElem?,Array.getElem?_setIfInBounds,if_neg (fun e=>h e.symm)]
theorem cnt_set {l:Array Bool} {i:Nat} (hi:i<l.size):∀ n,cnt (l.setIfInBounds i true) n≤cnt l n
 | 0=>lrf _
 | n+1=>by
  unfold cnt
  have h:=cnt_set hi n
  rw [Yl hi]
  by_cases e:n=i
  ·rw [if_pos e];simp;split<;>omega
  ·rw [if_neg e];omega
theorem cnt_lt {l:Array Bool} {i:Nat} (hi:i<l.size) (h0:l.getD i true=false):∀ n,i<n→cnt (l.setIfInBounds i true) n<cnt l n
 | 0,h=>absurd h (nlz _)
 | n+1,h=>by
  unfold cnt
  rw [Yl hi]
  by_cases e:n=i
  ·subst e
   have:=cnt_set hi n
   rw [if_pos rfl,h0];simp;omega
  ·have:=cnt_lt hi h0 n (by omega)
   rw [if_neg e];omega
theorem cnt_zero {l:Array Bool} : ∀ {n:Nat},cnt l n=0→∀ i,i<n→l.getD i true=true
 | 0,_,i,h=>absurd h (nlz _)
 | n+1,h0,i,h=>by
  unfold cnt at h0
  by_cases e:i=n
  ·subst e
   cases hg:l.getD i true with
   | true=>rfl
   | false=>rw [hg] at h0;simp at h0
  ·exact cnt_zero (n:=n) (by omega) i (by omega)
theorem cnt_le (l:Array Bool):∀ n,cnt l n≤n
 | 0=>lrf _
 | n+1=>by
  unfold cnt
  have:=cnt_le l n
  split<;>omega
theorem UD {P:Program} {md:Region.Mode} {ops:Array Oper} {Q:Exit→Act→World→Prop} (Inv:Array Bool→Act→World→Prop)
  (hsz:∀ l a w,Inv l a w→l.size=ops.size)
  (hdone:∀ l a w,Inv l a w→Region.ready md ops l=[]→Q .normal a w)
  (hstep:∀ l a w i,Inv l a w→i ∈ Region.ready md ops l→wpOp P ops Q i (Inv (l.setIfInBounds i true)) a w) :
  ∀ fuel l a w,Inv l a w→cnt l ops.size≤fuel→wpAny P md ops Q fuel l a w
 | 0,l,a,w,hI,hc=>by
  have hr:Region.ready md ops l=[]:=by
   rw [List.eq_nil_iff_forall_not_mem]
   intro i hi
   have h1:=(List.mem_filter.1 hi)
   have h2:i<ops.size:=by simpa using h1.1
   have h3:=h1.2
   rw [cnt_zero (by omega) i h2] at h3
   simp at h3
  exact ⟨hr,hdone l a w hI hr⟩
 | fuel+1,l,a,w,hI,hc=>by
  refine ⟨fun hr=>hdone l a w hI hr,fun i hi=>?_⟩
  have h1:=(List.mem_filter.1 hi)
  have h2:i<ops.size:=by simpa using h1.1
  have h3:l.getD i true=false:=by
   have h4:=h1.2
   simp only [Bool.and_eq_true] at h4
   simpa using h4.1
  have hs:=hsz l a w hI
  have h5:=cnt_lt (l:=l) (i:=i) (by omega) h3 ops.size h2
  exact wpOp_mono (fun a' w' hI'=>UD Inv hsz hdone hstep fuel _ a' w' hI' (by omega)) (hstep l a w i hI hi)
theorem Yz {P:Program} {id:Nat} {ops:Array Oper} {Q:Exit→Act→World→Prop} {a:Act} {w:World} (hm:P.follows .mixedOrders=true) (Inv:Array Bool→Act→World→Prop)
  (h0:Inv (Array.replicate ops.size false) a w.drew)
  (hsz:∀ l a w,Inv l a w→l.size=ops.size)
  (hdone:∀ l a w,Inv l a w→Region.ready .any ops l=[]→Q .normal a w)
  (hstep:∀ l a w i,Inv l a w→i ∈ Region.ready .any ops l→wpOp P ops Q i (Inv (l.setIfInBounds i true)) a w):(Code.region id ops true).wp P Q a w:=
 wp_region_any hm (UD Inv hsz hdone hstep _ _ _ _ h0 (cnt_le _ _))
theorem Y7 {ops:Array Oper} {l:Array Bool} (hord:((List.range ops.size).all fun i=>match ops[i]? with|some o=>o.after.all (fun e=>decide (e.on<i))|none=>true)=true) (hs:l.size=ops.size) (hr:Region.ready .any ops l=[]):∀ i,i<ops.size→l.getD i false=true:=by
 have conv:∀ i,i<ops.size→l.getD i true=l.getD i false:=fun i hi=>by simp [Array.getD,hs,hi]
 intro i
 induction i using Nat.strongRecOn with
 | _ i ih=>
  intro hi
  cases hg:l.getD i false with
  | true=>rfl
  | false=>
   have hm:i ∈ Region.ready .any ops l:=by
    rw [mem_ready]
    refine ⟨(conv i hi).trans hg,ops[i],by simp [hi],fun e he _=>?_⟩
    have h1:=List.all_eq_true.1 hord i (by simpa using hi)
    simp only [Array.getElem?_eq_getElem hi] at h1
    have h2:=(Array.all_eq_true_iff_forall_mem.1 h1) e he
    have h3:e.on<i:=by simpa using h2
    exact ih e.on h3 (by omega)
   rw [hr] at hm
   cases hm
theorem Zi {P:Program} {ops:Array Oper} {Q:Exit→Act→World→Prop} {i:Nat} {K:Act→World→Prop} {a:Act} {w:World} {o:Oper} (ho:ops[i]? = some o) (hg:o.guard=none) (h:o.wp P a w K Q):wpOp P ops Q i K a w:=by
 unfold wpOp
 rw [ho]
 simp only [Region.wanted,hg,if_true]
 exact Or.inl h
def updT (t:Nat→Value) (i:Nat) (v:Value):Nat→Value:=fun j=>bif j==i then v else t j
theorem ZO {t:Nat→Value} {i j:Nat} {v:Value} (h:¬j=i):updT t i v j=t j:=by
 have:(j==i)=false:=by simpa using h
 simp [updT,this]
theorem YA {t:Nat→Value} {i:Nat} {v:Value} : updT t i v i=v:=by simp [updT]
def ZV (ops:Array Oper) (i j:Nat):Prop:=∃ o,ops[i]? = some o∧∃ e ∈ o.after,Region.binds .any e=true∧e.on=j
theorem Wt {ops:Array Oper} {i j:Nat} (h:(match ops[i]? with|some o=>o.after.toList.any (fun e=>Region.binds .any e&&e.on==j)|none=>false)=true):ZV ops i j:=by
 cases ho:ops[i]? with
 | none=>rw [ho] at h;cases h
 | some o=>
  rw [ho] at h
  obtain ⟨e,he,h2⟩:=List.any_eq_true.1 h
  simp only [Bool.and_eq_true,beq_iff_eq] at h2
  exact ⟨o,ho,e,by simpa using he,h2.1,h2.2⟩
theorem sg {P:Prop} (h:P:=by
  have h:=hK _ X rfl (br _ _)
  refine Zi rfl rfl ?_
  clear hK hg
  go_simp
  first|simpa [updT,ea,eb,ec,ed,ee] using h|simpa [updT,ea,eb,ec,ed] using h|simpa [updT,ea,eb,ec] using h|simpa [updT,ea,eb] using h|simpa [updT,ea] using h|simpa [updT] using h):P:=h
def RK (n:Nat) (ops:Array Oper) (mk:(Nat→Value)→Array Value) (W:World) (G:Nat→Value→World→Prop) (Fin1 Fin:Act→World→Prop) (l:Array Bool) (a:Act) (X:World):Prop:=
 l.size=n+2∧(∀ i j,ZV ops i j→l.getD i false=true→l.getD j false=true) ∧
  (l.getD (n+1) false=true→(∀ i,i<n+2→l.getD i false=true)∧Fin a X) ∧
  (l.getD (n+1) false=false→l.getD n false=true→(∀ i,i<n+1→l.getD i false=true)∧Fin1 a X) ∧
  (l.getD (n+1) false=false→l.getD n false=false→∃ t:Nat→Value,a=⟨mk t,[]⟩∧Below W.1.size W X∧∀ i,i<n→l.getD i false=true→G i (t i) X)
theorem Kn {ops:Array Oper} {n:Nat} (hanc:((List.range n).all fun j=>(List.range (n+1)).any fun k=>match ops[k]? with|some o=>decide (j<k)&&o.after.any (fun e=>Region.binds .any e&&e.on==j)|none=>false)=true)
  {f:Nat→Prop} (hcl:∀ i j,ZV ops i j→f i→f j) (hn:∀ j,ZV ops n j→f j):∀ m j,n≤j+m→j<n→f j
 | 0,j,h,hj=>by omega
 | m+1,j,h,hj=>by
  have h1:=List.all_eq_true.1 hanc j (List.mem_range.2 hj)
  obtain ⟨k,hk,h2⟩:=List.any_eq_true.1 h1
  have hk':=List.mem_range.1 hk
  cases ho:ops[k]? with
  | none=>rw [ho] at h2;cases h2
  | some o=>
   rw [ho] at h2
   simp only [Bool.and_eq_true,decide_eq_true_eq] at h2
   obtain ⟨q,hq,h3⟩:=Array.any_eq_true.1 h2.2
   simp only [Bool.and_eq_true,beq_iff_eq] at h3
   have hw:ZV ops k j:=⟨o,ho,o.after[q],Array.getElem_mem hq,h3.1,h3.2⟩
   by_cases hkn:k=n
   ·subst hkn;exact hn j hw
   ·exact hcl k j hw (Kn hanc hcl hn m k (by omega) (by omega))
theorem apV9 {P:Prop} (h:P:=by
  rintro i j hi ⟨o,ho,e,he,_,rfl⟩
  have h1:=List.all_eq_true.1 hord i (List.mem_range.2 (by omega))
  rw [ho] at h1
  exact of_decide_eq_true (Array.all_eq_true_iff_forall_mem.1 h1 e he)):P:=h
theorem JY {P:Program} {id:Nat} {ops:Array Oper} {Q:Exit→Act→World→Prop} {a0:Act} {W:World} (hm:P.follows .mixedOrders=true) (n:Nat)
  (mk:(Nat→Value)→Array Value) (t0:Nat→Value) (G:Nat→Value→World→Prop) (Fin1 Fin:Act→World→Prop)
  (hn:ops.size=n+2) (hord:((List.range ops.size).all fun i=>match ops[i]? with|some o=>o.after.all (fun e=>decide (e.on<i))|none=>true)=true)
  (hlast:((List.range (n+1)).all fun j=>match ops[n+1]? with|some o=>o.after.any (fun e=>Region.binds .any e&&e.on==j)|none=>false)=true)
  (hanc:((List.range n).all fun j=>(List.range (n+1)).any fun k=>match ops[k]? with|some o=>decide (j<k)&&o.after.any (fun e=>Region.binds .any e&&e.on==j)|none=>false)=true)
  (st:∀ i v X Y,i<n→G i v X→Below X.1.size X Y→G i v Y)
  (h0:a0=⟨mk t0,[]⟩)
  (sg:∀ i,i<n→∀ (t:Nat→Value) X K,Below W.1.size W X→(∀ j,ZV ops i j→G j (t j) X)→(∀ v Y,G i v Y→Below X.1.size X Y→K ⟨mk (updT t i v),[]⟩ Y)→wpOp P ops Q i K ⟨mk t,[]⟩ X)
  (s1:∀ (t:Nat→Value) X K,Below W.1.size W X→(∀ j,j<n→G j (t j) X)→(∀ a Y,Fin1 a Y→K a Y)→wpOp P ops Q n K ⟨mk t,[]⟩ X)
  (sl:∀ a X K,Fin1 a X→(∀ a Y,Fin a Y→K a Y)→wpOp P ops Q (n+1) K a X)
  (hfin:∀ a X,Fin a X→Q .normal a X):(Code.region id ops true).wp P Q a0 W:=by
 have hdep:∀ i j,i<n+2→ZV ops i j→j<i:=by
  exact apV9
 refine Yz hm (RK n ops mk W G Fin1 Fin) ?_ ?_ ?_ ?_
 ·have hz:∀ i,(Array.replicate ops.size false).getD i false=false:=fun i=>by simp [Array.getD]
  refine ⟨by simp [hn],fun i j _ h=>?_,fun h=>?_,fun _ h=>?_,fun _ _=>⟨t0,h0,(br _ _).drew,fun i _ h=>?_⟩⟩<;>(rw [hz] at h;cases h)
 ·rintro l a X ⟨hs,_⟩
  rw [hs,hn]
 ·rintro l a X ⟨hs,_,h6,_⟩ hr
  have AL:=Y7 hord (by rw [hs,hn]) hr
  exact hfin a X (h6 (AL (n+1) (by omega))).2
 ·rintro l a X i ⟨hs,hcl,h6,h7,hg⟩ hr
  obtain ⟨hu,o,ho,hall⟩:=mem_ready.1 hr
  have di:∀ j,ZV ops i j→l.getD j false=true:=by
   rintro j ⟨o',ho',e,he,hb,rfl⟩
   rw [ho] at ho'
   obtain rfl:o=o':=by simpa using ho'
   exact hall e he hb
  have hi7:i<n+2:=by
   rcases Nat.lt_or_ge i (n+2) with h|h
   ·exact h
   ·rw [Array.getElem?_eq_none (by omega)] at ho
    cases ho
  have hui:l.getD i false=false:=by
   have:l.getD i true=false:=hu
   simpa [Array.getD,hs,hi7] using this
  have l6:l.getD (n+1) false=false:=by
   cases h:l.getD (n+1) false with
   | false=>rfl
   | true=>rw [(h6 h).1 i hi7] at hui;cases hui
  have kp:∀ j,¬j=i→(l.setIfInBounds i true).getD j false=l.getD j false:=fun j hj=>by rw [Yl (by omega),if_neg hj]
  have ki:(l.setIfInBounds i true).getD i false=true:=by rw [Yl (by omega),if_pos rfl]
  have hs':(l.setIfInBounds i true).size=n+2:=by simp [hs]
  have ku:∀ j,l.getD j false=true→(l.setIfInBounds i true).getD j false=true:=fun j h=>by
   by_cases e:j=i
   ·subst e;exact ki
   ·rw [kp j e];exact h
  have hcl':∀ p j,ZV ops p j→(l.setIfInBounds i true).getD p false=true→(l.setIfInBounds i true).getD j false=true:=fun p j hj h=>by
   by_cases e:p=i
   ·subst e;exact ku j (di j hj)
   ·rw [kp p e] at h;exact ku j (hcl p j hj h)
  by_cases hin:i=n+1
  ·subst hin
   have al:∀ j,j<n+1→l.getD j false=true:=fun j hj=>by
    have h1:=List.all_eq_true.1 hlast j (List.mem_range.2 hj)
    rw [ho] at h1
    obtain ⟨k,hk,h2⟩:=Array.any_eq_true.1 h1
    simp only [Bool.and_eq_true,beq_iff_eq] at h2
    exact di j ⟨o,ho,o.after[k],Array.getElem_mem hk,h2.1,h2.2⟩
   have hF:=(h7 l6 (al n (by omega))).2
   clear hr hu ho h6 hg
   refine sl a X _ hF (fun a Y hY=>⟨hs',hcl',fun _=>⟨fun j hj=>?_,hY⟩,fun h=>?_,fun h=>?_⟩)
   ·by_cases e:j=n+1
    ·subst e;exact ki
    ·exact ku j (al j (by omega))
   ·rw [ki] at h;cases h
   ·rw [ki] at h;cases h
  ·have hno:(l.setIfInBounds i true).getD (n+1) false=false:=by rw [kp (n+1) (fun e=>hin e.symm)];exact l6
   have l5:l.getD n false=false:=by
    cases h:l.getD n false with
    | false=>rfl
    | true=>rw [(h7 l6 h).1 i (by omega)] at hui;cases hui
   obtain ⟨t,rfl,hb,gg⟩:=hg l6 l5
   by_cases hin2:i=n
   ·subst hin2
    have al:=fun j hj=>Kn (f:=fun j=>l.getD j false=true) hanc hcl di i j (by omega) hj
    clear hr hu ho h6 h7 hg
    refine s1 t X _ hb (fun j hj=>gg j hj (al j hj)) (fun a Y hY=>⟨hs',hcl',fun h=>?_,fun _ _=>⟨fun j hj=>?_,hY⟩,fun _ h=>?_⟩)
    ·rw [hno] at h;cases h
    ·by_cases e:j=i
     ·subst e;exact ki
     ·exact ku j (al j (by omega))
    ·rw [ki] at h;cases h
   ·clear hr hu ho h6 h7 hg
    have hno2:(l.setIfInBounds i true).getD n false=false:=by rw [kp n (fun e=>hin2 e.symm)];exact l5
    refine sg i (by omega) t X _ hb (fun j hj=>gg j (by have:=hdep i j hi7 hj;omega) (di j hj)) (fun v Y hv hY=>⟨hs',hcl',fun h=>?_,fun _ h=>?_,fun _ _=>⟨updT t i v,rfl,hb.trans (hY.mono hb.size),fun j j1 h=>?_⟩⟩)
    ·rw [hno] at h;cases h
    ·rw [hno2] at h;cases h
    ·by_cases e:j=i
     ·subst e;rw [YA];exact hv
     ·rw [kp j e] at h;rw [ZO e];exact st _ _ _ _ j1 (gg j j1 h) hY
def RJ (n:Nat) (ops:Array Oper) (mk:(Nat→Value)→Array Value) (W:World) (G:Nat→Value→World→Prop) (Fin:Act→World→Prop) (l:Array Bool) (a:Act) (X:World):Prop:=
 l.size=n+1∧(∀ i j,ZV ops i j→l.getD i false=true→l.getD j false=true) ∧
  (l.getD n false=true→(∀ i,i<n+1→l.getD i false=true)∧Fin a X) ∧
  (l.getD n false=false→∃ t:Nat→Value,a=⟨mk t,[]⟩∧Below W.1.size W X∧∀ i,i<n→l.getD i false=true→G i (t i) X)
theorem ZL {P:Program} {id:Nat} {ops:Array Oper} {Q:Exit→Act→World→Prop} {a0:Act} {W:World} (hm:P.follows .mixedOrders=true) (n:Nat)
  (mk:(Nat→Value)→Array Value) (t0:Nat→Value) (G:Nat→Value→World→Prop) (Fin:Act→World→Prop)
  (hn:ops.size=n+1) (hord:((List.range ops.size).all fun i=>match ops[i]? with|some o=>o.after.all (fun e=>decide (e.on<i))|none=>true)=true)
  (hanc:((List.range n).all fun j=>(List.range (n+1)).any fun k=>match ops[k]? with|some o=>decide (j<k)&&o.after.any (fun e=>Region.binds .any e&&e.on==j)|none=>false)=true)
  (st:∀ i v X Y,i<n→G i v X→Below X.1.size X Y→G i v Y)
  (h0:a0=⟨mk t0,[]⟩)
  (sg:∀ i,i<n→∀ (t:Nat→Value) X K,Below W.1.size W X→(∀ j,ZV ops i j→G j (t j) X)→(∀ v Y,G i v Y→Below X.1.size X Y→K ⟨mk (updT t i v),[]⟩ Y)→wpOp P ops Q i K ⟨mk t,[]⟩ X)
  (sl:∀ (t:Nat→Value) X K,Below W.1.size W X→(∀ j,j<n→G j (t j) X)→(∀ a Y,Fin a Y→K a Y)→wpOp P ops Q n K ⟨mk t,[]⟩ X)
  (hfin:∀ a X,Fin a X→Q .normal a X):(Code.region id ops true).wp P Q a0 W:=by
 have hdep:∀ i j,i<n+1→ZV ops i j→j<i:=by
  exact apV9
 refine Yz hm (RJ n ops mk W G Fin) ?_ ?_ ?_ ?_
 ·have hz:∀ i,(Array.replicate ops.size false).getD i false=false:=fun i=>by simp [Array.getD]
  refine ⟨by simp [hn],fun i j _ h=>?_,fun h=>?_,fun _=>⟨t0,h0,(br _ _).drew,fun i _ h=>?_⟩⟩<;>(rw [hz] at h;cases h)
 ·rintro l a X ⟨hs,_⟩
  rw [hs,hn]
 ·rintro l a X ⟨hs,_,h6,_⟩ hr
  have AL:=Y7 hord (by rw [hs,hn]) hr
  exact hfin a X (h6 (AL n (by omega))).2
 ·rintro l a X i ⟨hs,hcl,h6,hg⟩ hr
  obtain ⟨hu,o,ho,hall⟩:=mem_ready.1 hr
  have di:∀ j,ZV ops i j→l.getD j false=true:=by
   rintro j ⟨o',ho',e,he,hb,rfl⟩
   rw [ho] at ho'
   obtain rfl:o=o':=by simpa using ho'
   exact hall e he hb
  have hi7:i<n+1:=by
   rcases Nat.lt_or_ge i (n+1) with h|h
   ·exact h
   ·rw [Array.getElem?_eq_none (by omega)] at ho
    cases ho
  have hui:l.getD i false=false:=by
   have:l.getD i true=false:=hu
   simpa [Array.getD,hs,hi7] using this
  have l6:l.getD n false=false:=by
   cases h:l.getD n false with
   | false=>rfl
   | true=>rw [(h6 h).1 i hi7] at hui;cases hui
  obtain ⟨t,rfl,hb,gg⟩:=hg l6
  have kp:∀ j,¬j=i→(l.setIfInBounds i true).getD j false=l.getD j false:=fun j hj=>by rw [Yl (by omega),if_neg hj]
  have ki:(l.setIfInBounds i true).getD i false=true:=by rw [Yl (by omega),if_pos rfl]
  have hs':(l.setIfInBounds i true).size=n+1:=by simp [hs]
  have ku:∀ j,l.getD j false=true→(l.setIfInBounds i true).getD j false=true:=fun j h=>by
   by_cases e:j=i
   ·subst e;exact ki
   ·rw [kp j e];exact h
  have hcl':∀ p j,ZV ops p j→(l.setIfInBounds i true).getD p false=true→(l.setIfInBounds i true).getD j false=true:=fun p j hj h=>by
   by_cases e:p=i
   ·subst e;exact ku j (di j hj)
   ·rw [kp p e] at h;exact ku j (hcl p j hj h)
  by_cases hin:i=n
  ·subst hin
   have al:=fun j hj=>Kn (f:=fun j=>l.getD j false=true) hanc hcl di i j (by omega) hj
   clear hr hu ho h6 hg
   refine sl t X _ hb (fun j hj=>gg j hj (al j hj)) (fun a Y hY=>⟨hs',hcl',fun _=>⟨fun j hj=>?_,hY⟩,fun h=>?_⟩)
   ·by_cases e:j=i
    ·subst e;exact ki
    ·exact ku j (al j (by omega))
   ·rw [ki] at h;cases h
  ·clear hr hu ho h6 hg
   have hno:(l.setIfInBounds i true).getD n false=false:=by rw [kp n (fun e=>hin e.symm)];exact l6
   refine sg i (by omega) t X _ hb (fun j hj=>gg j (by have:=hdep i j hi7 hj;omega) (di j hj)) (fun v Y hv hY=>⟨hs',hcl',fun h=>?_,fun _=>⟨updT t i v,rfl,hb.trans (hY.mono hb.size),fun j j1 h=>?_⟩⟩)
   ·rw [hno] at h;cases h
   ·by_cases e:j=i
    ·subst e;rw [YA];exact hv
    ·rw [kp j e] at h;rw [ZO e];exact st _ _ _ _ j1 (gg j j1 h) hY
def R5 (mk:(Nat→Value)→Array Value) (W:World) (v0 v1:Value) (F2:Value→World→Prop) (l:Array Bool) (a:Act) (X:World):Prop:=
 ∃ t:Nat→Value,a=⟨mk t,[]⟩∧l.size=5∧Below W.1.size W X∧(l.getD 0 false=true→t 0=v0)∧(l.getD 1 false=true→t 1=v1)∧(l.getD 2 false=true→F2 (t 2) X)∧(l.getD 3 false=true→t 3=.bool true)∧(l.getD 4 false=true→t 4=.bool false)
theorem region5 {P:Program} {id:Nat} {ops:Array Oper} {Q:Exit→Act→World→Prop} {a0:Act} {W:World} (hm:P.follows .mixedOrders=true)
  (mk:(Nat→Value)→Array Value) (v0 v1:Value) (F2:Value→World→Prop)
  (hn:ops.size=5) (hord:((List.range ops.size).all fun i=>match ops[i]? with|some o=>o.after.all (fun e=>decide (e.on<i))|none=>true)=true)
  (hd:∀ l i,i ∈ Region.ready .any ops l→(i=2→l.getD 1 false=true)∧(i=3→l.getD 0 false=true∧l.getD 2 false=true)∧(i=4→l.getD 3 false=true))
  (st2:∀ v X Y,F2 v X→Below X.1.size X Y→F2 v Y)
  (h0:a0=⟨mk (fun _=>undef),[]⟩)
  (s0:∀ t X K,Below W.1.size W X→K ⟨mk (updT t 0 v0),[]⟩ X→wpOp P ops Q 0 K ⟨mk t,[]⟩ X)
  (s1:∀ t X K,Below W.1.size W X→K ⟨mk (updT t 1 v1),[]⟩ X→wpOp P ops Q 1 K ⟨mk t,[]⟩ X)
  (s2:∀ t X K,Below W.1.size W X→t 1=v1→(∀ v Y,F2 v Y→Below X.1.size X Y→K ⟨mk (updT t 2 v),[]⟩ Y)→wpOp P ops Q 2 K ⟨mk t,[]⟩ X)
  (s3:∀ t X K,Below W.1.size W X→t 0=v0→F2 (t 2) X→(∀ Y,Below X.1.size X Y→K ⟨mk (updT t 3 (.bool true)),[]⟩ Y)→wpOp P ops Q 3 K ⟨mk t,[]⟩ X)
  (s4:∀ t X K,t 3=.bool true→K ⟨mk (updT t 4 (.bool false)),[]⟩ X→wpOp P ops Q 4 K ⟨mk t,[]⟩ X)
  (hfin:∀ t X,t 4=.bool false→Below W.1.size W X→Q .normal ⟨mk t,[]⟩ X):(Code.region id ops true).wp P Q a0 W:=by
 refine Yz hm (R5 mk W v0 v1 F2) ?_ ?_ ?_ ?_
 ·refine ⟨fun _=>undef,h0,by simp [hn],(br _ _).drew,fun h=>?_,fun h=>?_,fun h=>?_,fun h=>?_,fun h=>?_⟩<;>(rw [hn] at h;simp at h)
 ·rintro l a X ⟨t,_,hs,_⟩
  rw [hs,hn]
 ·rintro l a X ⟨t,rfl,hs,hb,_,_,_,_,g4⟩ hr
  have AL:=Y7 hord (by rw [hs,hn]) hr
  exact hfin t X (g4 (AL 4 (by omega))) hb
 ·rintro l a X i ⟨t,rfl,hs,hb,g0,g1,g2,g3,g4⟩ hr
  obtain ⟨d2,d3,d4⟩:=hd l i hr
  obtain ⟨hu,o,ho,_⟩:=mem_ready.1 hr
  have hi5:i<5:=by
   rcases Nat.lt_or_ge i 5 with h|h
   ·exact h
   ·rw [Array.getElem?_eq_none (by omega)] at ho
    cases ho
  have kp:∀ j,¬j=i→(l.setIfInBounds i true).getD j false=l.getD j false:=fun j hj=>by rw [Yl (by omega),if_neg hj]
  have hs':(l.setIfInBounds i true).size=5:=by simp [hs]
  clear hr hu ho
  rcases (show i=0∨i=1∨i=2∨i=3∨i=4 by omega) with rfl|rfl|rfl|rfl|rfl
  ·refine s0 t X _ hb ⟨updT t 0 v0,rfl,hs',hb,fun _=>rfl,fun h=>?_,fun h=>?_,fun h=>?_,fun h=>?_⟩
   ·rw [kp 1 (by decide)] at h;exact g1 h
   ·rw [kp 2 (by decide)] at h;exact g2 h
   ·rw [kp 3 (by decide)] at h;exact g3 h
   ·rw [kp 4 (by decide)] at h;exact g4 h
  ·refine s1 t X _ hb ⟨updT t 1 v1,rfl,hs',hb,fun h=>?_,fun _=>rfl,fun h=>?_,fun h=>?_,fun h=>?_⟩
   ·rw [kp 0 (by decide)] at h;exact g0 h
   ·rw [kp 2 (by decide)] at h;exact g2 h
   ·rw [kp 3 (by decide)] at h;exact g3 h
   ·rw [kp 4 (by decide)] at h;exact g4 h
  ·refine s2 t X _ hb (g1 (d2 rfl)) (fun v Y hv hY=>⟨updT t 2 v,rfl,hs',hb.trans (hY.mono hb.size),fun h=>?_,fun h=>?_,fun _=>hv,fun h=>?_,fun h=>?_⟩)
   ·rw [kp 0 (by decide)] at h;exact g0 h
   ·rw [kp 1 (by decide)] at h;exact g1 h
   ·rw [kp 3 (by decide)] at h;exact g3 h
   ·rw [kp 4 (by decide)] at h;exact g4 h
  ·refine s3 t X _ hb (g0 (d3 rfl).1) (g2 (d3 rfl).2) (fun Y hY=>⟨updT t 3 _,rfl,hs',hb.trans (hY.mono hb.size),fun h=>?_,fun h=>?_,fun h=>?_,fun _=>rfl,fun h=>?_⟩)
   ·rw [kp 0 (by decide)] at h;exact g0 h
   ·rw [kp 1 (by decide)] at h;exact g1 h
   ·rw [kp 2 (by decide)] at h;exact st2 _ _ _ (g2 h) hY
   ·rw [kp 4 (by decide)] at h;exact g4 h
  ·refine s4 t X _ (g3 (d4 rfl)) ⟨updT t 4 _,rfl,hs',hb,fun h=>?_,fun h=>?_,fun h=>?_,fun h=>?_,fun _=>rfl⟩
   ·rw [kp 0 (by decide)] at h;exact g0 h
   ·rw [kp 1 (by decide)] at h;exact g1 h
   ·rw [kp 2 (by decide)] at h;exact g2 h
   ·rw [kp 3 (by decide)] at h;exact g3 h
theorem Kg (r:Rc) (A A2:RcA) (w:World) (lo hi lo2 hi2:Nat) (hhi:hi≤w.1.size) (hhi2:hi2≤w.1.size) (hf:ZR r) (hc:RcIn w lo hi r A) (hc2:RcIn w lo2 hi2 r A2) :
  Calls Tryz.prog 10 #[rcV r A,rcV r A2] w fun e w'=>e=.returned (.bool true)∧Below w.1.size w w':=by
 have HF:=hid hf
 have HI:=hid hc
 have HJ:=hid hc2
 clear hf hc hc2
 have hB0:Below w.1.size w ((w.alloc (.cells (rcC r A) 38)).alloc (.cells (rcC r A2) 38)):=(Zb _ _).alloc (by simp) _
 have H0:Holds ((w.alloc (.cells (rcC r A) 38)).alloc (.cells (rcC r A2) 38)) w.1.size (rcC r A):=(Zt w (rcC r A) 38).below (Zb _ _) (by simp)
 have K0:Holds ((w.alloc (.cells (rcC r A) 38)).alloc (.cells (rcC r A2) 38)) (w.1.size+1) (rcC r A2):=by
  have:=Zt (w.alloc (.cells (rcC r A) 38)) (rcC r A2) 38
  rw [World.size_alloc] at this
  exact this
 have hz0:w.1.size+1<((w.alloc (.cells (rcC r A) 38)).alloc (.cells (rcC r A2) 38)).1.size:=by simp
 go_enter Tryz.func10,Tryz.ntmps10
 have c1:=eqDk_any r.sf A.sa A2.sa A.sc A2.sc ((w.alloc (.cells (rcC r A) 38)).alloc (.cells (rcC r A2) 38)) lo hi lo2 hi2 (ltr hhi hB0.size) (ltr hhi2 hB0.size) (by have:=HF.out.sf.n;omega) (HI.out.below hB0 hhi).sf (HJ.out.below hB0 hhi2).sf
 go_wp2_with fail
 refine c1.mono ?_
 clear c1
 rintro e w1 ⟨rfl,hb1⟩
 have hB1:Below w.1.size w w1:=hB0.trans (hb1.mono hB0.size)
 have H1:Holds w1 w.1.size (rcC r A):=H0.below hb1 (Nat.lt_of_succ_lt hz0)
 have K1:Holds w1 (w.1.size+1) (rcC r A2):=K0.below hb1 hz0
 have hz1:w.1.size+1<w1.1.size:=ltl hz0 hb1.size
 clear hb1 H0 K0
 have c2:=eqDk_any r.dk A.da A2.da A.dc A2.dc w1 lo hi lo2 hi2 (ltr hhi hB1.size) (ltr hhi2 hB1.size) (by have:=HF.out.dk.n;omega) (HI.out.below hB1 hhi).dk (HJ.out.below hB1 hhi2).dk
 obtain ⟨p0,p1,p2,p3,p4,p5,p6,p7,p8,p9,p10,p11,p12,p13,p14,p15,p16,p17⟩:=Ze H1
 obtain ⟨q0,q1,q2,q3,q4,q5,q6,q7,q8,q9,q10,q11,q12,q13,q14,q15,q16,q17⟩:=Ze K1
 go_wp2_with fail
 refine c2.mono ?_
 clear c2
 rintro e w2 ⟨rfl,hb2⟩
 clear p0 p1 p2 p3 p4 p5 p6 p7 p8 p9 p10 p11 p12 p13 p14 p15 p16 p17 q0 q1 q2 q3 q4 q5 q6 q7 q8 q9 q10 q11 q12 q13 q14 q15 q16 q17
 have hB2:Below w.1.size w w2:=hB1.trans (hb2.mono hB1.size)
 have H2:Holds w2 w.1.size (rcC r A):=H1.below hb2 (Nat.lt_of_succ_lt hz1)
 have K2:Holds w2 (w.1.size+1) (rcC r A2):=K1.below hb2 hz1
 have hz2:w.1.size+1<w2.1.size:=ltl hz1 hb2.size
 clear hb2 H1 K1
 have c3:=eqMss_any r.hn r.hs A.ha A2.ha A.hc A2.hc w2 lo hi lo2 hi2 (ltr hhi hB2.size) (ltr hhi2 hB2.size) (by have:=HF.out.hn;omega) (fun i h=>by have:=(HF.out.hs i h).n;omega) (HI.out.below hB2 hhi).hs (HJ.out.below hB2 hhi2).hs
 obtain ⟨p0,p1,p2,p3,p4,p5,p6,p7,p8,p9,p10,p11,p12,p13,p14,p15,p16,p17⟩:=Ze H2
 obtain ⟨q0,q1,q2,q3,q4,q5,q6,q7,q8,q9,q10,q11,q12,q13,q14,q15,q16,q17⟩:=Ze K2
 go_wp2_with fail
 refine c3.mono ?_
 clear c3
 rintro e w3 ⟨rfl,hb3⟩
 clear p0 p1 p2 p3 p4 p5 p6 p7 p8 p9 p10 p11 p12 p13 p14 p15 p16 p17 q0 q1 q2 q3 q4 q5 q6 q7 q8 q9 q10 q11 q12 q13 q14 q15 q16 q17
 have hB3:Below w.1.size w w3:=hB2.trans (hb3.mono hB2.size)
 have H3:Holds w3 w.1.size (rcC r A):=H2.below hb3 (Nat.lt_of_succ_lt hz2)
 have K3:Holds w3 (w.1.size+1) (rcC r A2):=K2.below hb3 hz2
 have hz3:w.1.size+1<w3.1.size:=ltl hz2 hb3.size
 clear hb3 H2 K2
 have c4:=eqStrs_any r.wn r.ws A.wa A2.wa A.wc A2.wc w3 lo hi lo2 hi2 (by have:=HF.out.wn;omega) (HI.out.below hB3 hhi).ws (HJ.out.below hB3 hhi2).ws
 obtain ⟨p0,p1,p2,p3,p4,p5,p6,p7,p8,p9,p10,p11,p12,p13,p14,p15,p16,p17⟩:=Ze H3
 obtain ⟨q0,q1,q2,q3,q4,q5,q6,q7,q8,q9,q10,q11,q12,q13,q14,q15,q16,q17⟩:=Ze K3
 go_wp2_with fail
 refine c4.mono ?_
 clear c4
 rintro e w4 ⟨rfl,q,he4⟩
 have hb4:Below w3.1.size w3 w4:=by rw [he4];exact Yt _ _
 clear he4
 clear p0 p1 p2 p3 p4 p5 p6 p7 p8 p9 p10 p11 p12 p13 p14 p15 p16 p17 q0 q1 q2 q3 q4 q5 q6 q7 q8 q9 q10 q11 q12 q13 q14 q15 q16 q17
 have hB4:Below w.1.size w w4:=hB3.trans (hb4.mono hB3.size)
 have H4:Holds w4 w.1.size (rcC r A):=H3.below hb4 (Nat.lt_of_succ_lt hz3)
 have K4:Holds w4 (w.1.size+1) (rcC r A2):=K3.below hb4 hz3
 have hz4:w.1.size+1<w4.1.size:=ltl hz3 hb4.size
 clear hb4 H3 K3
 have c5:=Ur r.yn r.ys A.ya A2.ya A.yc A2.yc w4 lo hi lo2 hi2 (by have:=HF.out.yn;omega) (HI.out.below hB4 hhi).ys (HJ.out.below hB4 hhi2).ys
 obtain ⟨p0,p1,p2,p3,p4,p5,p6,p7,p8,p9,p10,p11,p12,p13,p14,p15,p16,p17⟩:=Ze H4
 obtain ⟨q0,q1,q2,q3,q4,q5,q6,q7,q8,q9,q10,q11,q12,q13,q14,q15,q16,q17⟩:=Ze K4
 go_wp2_with fail
 refine c5.mono ?_
 clear c5
 rintro e w5 ⟨rfl,q,he5⟩
 have hb5:Below w4.1.size w4 w5:=by rw [he5];exact Yt _ _
 clear he5
 clear p0 p1 p2 p3 p4 p5 p6 p7 p8 p9 p10 p11 p12 p13 p14 p15 p16 p17 q0 q1 q2 q3 q4 q5 q6 q7 q8 q9 q10 q11 q12 q13 q14 q15 q16 q17
 have hB5:Below w.1.size w w5:=hB4.trans (hb5.mono hB4.size)
 have H5:Holds w5 w.1.size (rcC r A):=H4.below hb5 (Nat.lt_of_succ_lt hz4)
 have K5:Holds w5 (w.1.size+1) (rcC r A2):=K4.below hb5 hz4
 have hz5:w.1.size+1<w5.1.size:=ltl hz4 hb5.size
 clear hb5 H4 K4
 have c6:=Ky r.bn r.bs A.ba A2.ba A.bc A2.bc w5 lo hi lo2 hi2 (ltr hhi hB5.size) (ltr hhi2 hB5.size) (by have:=HF.out.bn;omega) (HI.out.below hB5 hhi).bs (HJ.out.below hB5 hhi2).bs
 obtain ⟨p0,p1,p2,p3,p4,p5,p6,p7,p8,p9,p10,p11,p12,p13,p14,p15,p16,p17⟩:=Ze H5
 obtain ⟨q0,q1,q2,q3,q4,q5,q6,q7,q8,q9,q10,q11,q12,q13,q14,q15,q16,q17⟩:=Ze K5
 go_wp2_with fail
 refine c6.mono ?_
 clear c6
 rintro e w6 ⟨rfl,hb6⟩
 clear p0 p1 p2 p3 p4 p5 p6 p7 p8 p9 p10 p11 p12 p13 p14 p15 p16 p17 q0 q1 q2 q3 q4 q5 q6 q7 q8 q9 q10 q11 q12 q13 q14 q15 q16 q17
 have hB6:Below w.1.size w w6:=hB5.trans (hb6.mono hB5.size)
 have H6:Holds w6 w.1.size (rcC r A):=H5.below hb6 (Nat.lt_of_succ_lt hz5)
 have K6:Holds w6 (w.1.size+1) (rcC r A2):=K5.below hb6 hz5
 have hz6:w.1.size+1<w6.1.size:=ltl hz5 hb6.size
 clear hb6 H5 K5
 have c7:=eqAks_any r.an r.as_ A.aa A2.aa A.ac A2.ac w6 lo hi lo2 hi2 (ltr hhi hB6.size) (ltr hhi2 hB6.size) (by have:=HF.out.an;omega) (fun i h=>by have:=(HF.out.as_ i h).n;omega) (HI.out.below hB6 hhi).as_ (HJ.out.below hB6 hhi2).as_
 obtain ⟨p0,p1,p2,p3,p4,p5,p6,p7,p8,p9,p10,p11,p12,p13,p14,p15,p16,p17⟩:=Ze H6
 obtain ⟨q0,q1,q2,q3,q4,q5,q6,q7,q8,q9,q10,q11,q12,q13,q14,q15,q16,q17⟩:=Ze K6
 go_wp2_with fail
 refine c7.mono ?_
 clear c7
 rintro e w7 ⟨rfl,hb7⟩
 clear p0 p1 p2 p3 p4 p5 p6 p7 p8 p9 p10 p11 p12 p13 p14 p15 p16 p17 q0 q1 q2 q3 q4 q5 q6 q7 q8 q9 q10 q11 q12 q13 q14 q15 q16 q17
 have hB7:Below w.1.size w w7:=hB6.trans (hb7.mono hB6.size)
 have H7:Holds w7 w.1.size (rcC r A):=H6.below hb7 (Nat.lt_of_succ_lt hz6)
 have K7:Holds w7 (w.1.size+1) (rcC r A2):=K6.below hb7 hz6
 have hz7:w.1.size+1<w7.1.size:=ltl hz6 hb7.size
 clear hb7 H6 K6
 obtain ⟨p0,p1,p2,p3,p4,p5,p6,p7,p8,p9,p10,p11,p12,p13,p14,p15,p16,p17⟩:=Ze H7
 obtain ⟨q0,q1,q2,q3,q4,q5,q6,q7,q8,q9,q10,q11,q12,q13,q14,q15,q16,q17⟩:=Ze K7
 go_wp2
 go_ret
 exact ⟨rfl,hB7⟩
def rc0 (n o:Int) (u:Bool):Rc:=⟨n,o,u,⟨0,0,0,fun _=>⟨0,⟨#[]⟩⟩⟩,⟨0,0,0,fun _=>⟨0,⟨#[]⟩⟩⟩,0,fun _=>⟨0,0,0,0,0,0,⟨#[]⟩,0,fun _=>⟨0,⟨#[]⟩⟩⟩,0,fun _=>⟨#[]⟩,false,false,0,0,fun _=>0,0,fun _=>⟨0,⟨#[]⟩⟩,0,fun _=>⟨0,0,fun _=>0⟩,0⟩
def rcA0:RcA:=⟨none,none,none,none,none,none,none,0,0,0,0,0,0,0⟩
abbrev rcL (n o:Int) (u:Bool):List Value:=[.int .i64 n,.int .i64 o,.bool u,.int .i64 0,.int .i64 0,.slice none 0 0,.int .i64 0,.int .i64 0,.slice none 0 0,.slice none 0 0,.slice none 0 0,.bool false,.bool false,.int .i64 0,.slice none 0 0,.slice none 0 0,.slice none 0 0,.int .i64 0]
abbrev rcZ (n o:Int) (u:Bool):Value:=.agg #[.int .i64 n,.int .i64 o,.bool u,.int .i64 0,.int .i64 0,.slice none 0 0,.int .i64 0,.int .i64 0,.slice none 0 0,.slice none 0 0,.slice none 0 0,.bool false,.bool false,.int .i64 0,.slice none 0 0,.slice none 0 0,.slice none 0 0,.int .i64 0]
def Yc (n o:Int):Bool:=inB o 1 5&&inB n 1 o
theorem J5 (n o:Int) (w:World):Calls Tryz.prog 89 #[.int .i64 n,.int .i64 o] w fun e w'=>e=.returned (.bool (Yc n o))∧w'=w:=by
 cases h1:inB o 1 5 with
 | false=>
  have HE:=hid (show Yc n o=false by rw [Yc,h1];rfl)
  go_enter Tryz.func89,Tryz.ntmps89
  go_wp2_with (go_at_call 93;refine (Zu _ _ _ _).mono ?_;rintro e w1 ⟨rfl,rfl⟩;rw [h1])
  go_ret
  exact ⟨Zh HE.out.symm,rfl⟩
 | true=>
  have HE:=hid (show Yc n o=inB n 1 o by rw [Yc,h1];rfl)
  generalize Yc n o=B at *
  obtain ⟨b2,h2⟩:∃ b,inB n 1 o=b:=⟨_,rfl⟩
  rw [h2] at HE
  go_enter Tryz.func89,Tryz.ntmps89
  go_wp2_with (go_at_call 93;refine (Zu _ _ _ _).mono ?_;rintro e w1 ⟨rfl,rfl⟩;first|rw [h1]|rw [h2])
  go_ret
  exact ⟨Zh HE.out.symm,rfl⟩

theorem World.rangeAt_below {w w':World} {B b:Nat} {cs:List Value} (h:w.rangeAt b 0 cs) (hb:Below B w w') (hB:b<B):w'.rangeAt b 0 cs:=fun j v hv=>(hb.cell (p:=⟨b,0+j,none⟩) hB).trans (h j v hv)
theorem SrcRow.below {w w':World} {B lo hi:Nat} {ad:Option Addr} {m:Nat} {c:Nat→Value} (h:SrcRow w lo hi ad m c) (hb:Below B w w') (hB:hi≤B):SrcRow w' lo hi ad m c:=
 ⟨fun j hj=>by obtain ⟨b,off,e1,e2,e3,e4⟩:=h.at_ j hj;exact ⟨b,off,e1,e2,e3,(hb.cell (p:=⟨b,off+j,none⟩) (by show b<B;omega)).trans e4⟩,h.one⟩
structure Bx (w:World) (b:Nat) (c:Array Value):Prop where
 cell:Holds w b c
 free:∀ i,w.frozen? ⟨b,i,none⟩=false
 lt:b<w.1.size
theorem Bx.below {w w':World} {b B:Nat} {c:Array Value} (h:Bx w b c) (hb:Below B w w') (hB:b<B):Bx w' b c:=
 ⟨h.cell.below hb hB,fun i=>(hb.frozen (p:=⟨b,i,none⟩) hB).trans (h.free i),ltl h.lt hb.size⟩
theorem Bx.frP {w w':World} {b:Nat} {c:Array Value} {P:Nat→Prop} (h:Bx w b c) (hb:FrP P w w') (ho:¬P b):Bx w' b c:=
 ⟨h.cell.frP hb h.lt ho,fun i=>(hb.frozen (p:=⟨b,i,none⟩) h.lt ho).trans (h.free i),ltl h.lt hb.size⟩
theorem Bx.to {w:World} {b:Nat} {c c':Array Value} {i:Nat} {v:Value} (h:Bx w b c) (hc:Holds (w.setCell ⟨b,i,none⟩ v) b c'):Bx (w.setCell ⟨b,i,none⟩ v) b c':=
 ⟨hc,fun j=>by rw [World.frozen?_setCell];exact h.free j,by rw [World.size_setCell];exact h.lt⟩
theorem Bx.there {w:World} {b:Nat} {c:Array Value} (h:Bx w b c):w.there b 0 c.size:=Holds.there h.cell h.free
theorem RcAt.ofRows {w:World} {r:Rc} {p:RcP} (z:Nat→Nat) (o0:SlsAt w p.A.sa p.g0 r.sf.n r.sf.s) (o1:SlsAt w p.A.da p.g1 r.dk.n r.dk.s) (o2:MssAt w p.A.ha p.g2 r.hn r.hs p.HA p.HC p.Hb) (o3:StrsOwn w p.g3 (p.g3+1) p.A.wa r.wn r.ws) (o4:IntsOwn w p.g4 (p.g4+1) p.A.ya r.yn r.ys) (o5:SlsAt w p.A.ba p.g5 r.bn r.bs) (o6:AksAt w p.A.aa p.g6 r.an r.as_ p.AA p.AC p.Ab)
  (hz:∀ j,j<7→z j≤z (j+1)) (ht:z 7≤w.1.size) (hr:∀ j k,j<7→rb p r j k→z j≤k∧k<z (j+1)):RcAt w r p:=by
 have mono:∀ a b,a≤b→b≤7→z a≤z b:=fun a b hab hb=>by
  induction b with
  | zero=>
    have:a=0:=by omega
    subst this;exact lrf _
  | succ m ih=>
   rcases Nat.lt_or_ge m a with h|h
   ·have:a=m+1:=by omega
    subst this;exact lrf _
   ·exact ltr (ih h (by omega)) (hz m (by omega))
 refine ⟨o0,o1,o2,o3,o4,o5,o6,fun k hk=>?_,fun i j k hi hj h1 h2=>?_⟩
 ·obtain ⟨j,hj,hk⟩:=hk
  have:=(hr j k hj hk).2
  have:=mono (j+1) 7 (by omega) (by omega)
  omega
 ·have e1:=hr i k hi h1
  have e2:=hr j k hj h2
  rcases Nat.lt_trichotomy i j with h|h|h
  ·have:=mono (i+1) j (by omega) (by omega);omega
  ·exact h
  ·have:=mono (j+1) i (by omega) (by omega);omega
end Go.Proofs.YtokkbdlofbdljaaGreat
namespace Go.Proofs.YtokkbdlofbdljaaGreat
open Go.RowKit
structure JB (r:Rc) (A:RcA):Prop where
 sc:A.sc=r.sf.n
 dc:A.dc=r.dk.n
 hc:A.hc=r.hn
 wc:A.wc=r.wn
 yc:A.yc=r.yn
 bc:A.bc=r.bn
 ac:A.ac=r.an
 da:r.dk.n=0→A.da=none
theorem Kj (d:Dk) (ad:Option Addr) (cap:Nat) (w:World) (lo hi:Nat) (hhi:hi≤w.1.size) (hl:(d.n:Int)≤1099511627776) (hc:SlsIn w lo hi ad d.n d.s) :
  Calls Tryz.prog 99 #[dkV d ad cap] w fun e w'=>∃ ad' b',e=.returned (dkV d ad' d.n)∧SlsAt w' ad' b' d.n d.s∧(d.n≠0→w.1.size≤b'∧b'<w'.1.size)∧Below w.1.size w w'∧(d.n=0→ad'=none):=by
 have HC:=hid hc
 clear hc
 go_enter Tryz.func99,Tryz.ntmps99
 go_wp2_with fail
 refine (XH d.n d.s ad cap _ lo hi (by simp;omega) hl (HC.out.below (B:=w.1.size) ((Zb _ _).alloc (by simp) _) hhi)).mono ?_
 rintro e w1 ⟨ad',rfl,ho,hlt,hb,hn⟩
 have HN:=hid hn
 clear hn
 simp only [World.size_alloc] at ho hlt
 obtain ⟨P1,R1,F1,F2⟩:=Xt hb
 have hB:Below w.1.size w w1:=((Zb _ _).alloc (by simp) _).trans (hb.mono (by simp;omega))
 have hz:w.1.size+1<w1.1.size:=by have:=hb.size;simp at this;omega
 have HO:=hid ho
 have HL:=hid hlt
 have q0:w1.cell? ⟨w.1.size,0,none⟩=some (.int .i64 d.pr):=P1 0
 have q1:w1.cell? ⟨w.1.size,1,none⟩=some (.int .i64 d.kn):=P1 1
 have q2:w1.cell? ⟨w.1.size,2,none⟩=some (.slice ad d.n cap):=P1 2
 have s0:w1.cell? ⟨w.1.size+1,0,none⟩=some (.int .i64 0):=R1 0
 have s1:w1.cell? ⟨w.1.size+1,1,none⟩=some (.int .i64 0):=R1 1
 have s2:w1.cell? ⟨w.1.size+1,2,none⟩=some (.slice none 0 0):=R1 2
 clear hb P1 R1 ho hlt
 go_wp2
 refine bodyPost_ret (v:=dkV d ad' d.n) (by simp [results,Tryz.results99,go_sem,s0,s1,s2]) rfl ⟨ad',w.1.size+1+1,rfl,?_,fun h0=>?_,?_,HN.out⟩
 ·refine HO.out.frP (P:=fun q=>q=w.1.size∨q=w.1.size+1) ?_ (fun h0=>⟨by omega,HL.out h0⟩)
  iterate 4 refine FrP.setCell (P:=fun q=>q=w.1.size∨q=w.1.size+1) ?_ (by simp) _
  exact FrP.refl _ _
 ·have:=HL.out h0
  simp only [World.size_setCell]
  exact ⟨by omega,this⟩
 ·refine hB.trans (FrP.below (P:=fun q=>q=w.1.size∨q=w.1.size+1) ?_ (fun k hk e=>by omega) hB.size)
  iterate 4 refine FrP.setCell (P:=fun q=>q=w.1.size∨q=w.1.size+1) ?_ (by simp) _
  exact FrP.refl _ _
def akOk (of:Int) (a:Ak):Bool:=inB a.ix 1 60&&numB of a.n a.s
def ascA (n:Nat) (x:Nat→Ak):Bool:=YP (fun i=>i==0||decide ((x (i-1)).ix<(x i).ix)) n
def aksB (of:Int) (n:Nat) (x:Nat→Ak):Bool:=YP (fun i=>akOk of (x i)) n&&ascA n x
theorem aksB_all (of:Int) (n:Nat) (x:Nat→Ak):aksB of n x=YP (fun i=>inB (x i).ix 1 60&&numB of (x i).n (x i).s&&(i==0||decide ((x (i-1)).ix<(x i).ix))) n:=by
 rw [Bool.eq_iff_iff,aksB,ascA,Bool.and_eq_true,allTo_iff,allTo_iff,allTo_iff]
 exact ⟨fun h i hi=>by have h1:=h.1 i hi;have h2:=h.2 i hi;rw [akOk] at h1;rw [h1,h2];rfl,fun h=>⟨fun i hi=>by have:=h i hi;rw [Bool.and_eq_true] at this;exact this.1,fun i hi=>by have:=h i hi;rw [Bool.and_eq_true] at this;exact this.2⟩⟩
theorem apV2 {P:Prop} (h:P:=by
  go_wp2
  go_quiet (first|(go_at_call 75;go_must (exact Calls.quiet_of_same (ZI _ _ _ _)))|(go_at_call 78;go_must (exact Calls.quiet_of (Xo of _ _ _ _ _ lo hi hlk (hs.drewN _)))))
  go_wp2
  go_ret
  exact ⟨Zh HE.out.symm,Jr HQ.out⟩):P:=h
theorem acksS_any (of:Int) (n:Nat) (x:Nat→Ak) (ad:Option Addr) (cap:Nat) (w:World) (lo hi:Nat) (hl:(n:Int)≤140737488355328) (hf:∀ i,i<n→((x i).n:Int)≤140737488355328) (hc:AksIn w lo hi ad n x) :
  Calls Tryz.prog 80 #[.slice ad n cap,.int .i64 of] w fun e w'=>e=.returned (.bool (aksB of n x))∧∃ q,w'=w.drewN q:=by
 rw [aksB_all]
 go_enter Tryz.func80,Tryz.ntmps80
 go_wp2
 go_loopw [5] (fun i wr=>∃ k:Nat,k≤n∧i=.int .i64 k∧Hid (∀ j,j<k→(inB (x j).ix 1 60&&numB of (x j).n (x j).s&&(j==0||decide ((x (j-1)).ix<(x j).ix)))=true)∧∃ q,wr=w.drewN q) (fun i _=>n-(intOf i).toNat)
 case atStart=>exact ⟨0,zle _,rfl,fun j hj=>absurd hj (nlz _),0,rfl⟩
 case round=>
  obtain ⟨k,hk,rfl,HA,q,hq⟩:=hrel
  have HQ:=hid hq
  by_cases hkn:k<n
  ·obtain ⟨b,off,ah,ch,rfl,hlo,hbh,hcx0,hs0⟩:=hc k hkn
   have hlk:=hf k hkn
   have hcx:AkCells wr b (off+k*2) (x k) ah ch:=by rw [hq];exact hcx0.below (B:=b+1) ⟨rfl,rfl,rfl,lrf _,fun _ _=>rfl⟩ (by omega)
   have hs:IntsIn wr lo hi ah (x k).n (x k).s:=by rw [hq];exact hs0.drewN q
   obtain ⟨d0,d1⟩:=hcx
   clear hcx0 hs0
   cases hn:inB (x k).ix 1 60 with
   | false=>
    have HE:=hid (ZQ (p:=fun i=>inB (x i).ix 1 60&&numB of (x i).n (x i).s&&(i==0||decide ((x (i-1)).ix<(x i).ix))) hkn (by rw [hn];rfl))
    clear hc hq hf
    exact apV2
   | true=>
    cases hm:numB of (x k).n (x k).s with
    | false=>
     have HE:=hid (ZQ (p:=fun i=>inB (x i).ix 1 60&&numB of (x i).n (x i).s&&(i==0||decide ((x (i-1)).ix<(x i).ix))) hkn (by rw [hn,hm];rfl))
     clear hc hq hf
     exact apV2
    | true=>
    rcases Nat.eq_zero_or_pos k with rfl|hpos
    ·clear hc hq hf
     have HN:=hid (show (inB (x 0).ix 1 60&&numB of (x 0).n (x 0).s&&((0:Nat)==0||decide ((x (0-1)).ix<(x 0).ix)))=true by rw [hn,hm];rfl)
     simp only [Nat.zero_mul,Nat.add_zero] at d0 d1
     go_wp2
     go_quiet (first|(go_at_call 75;go_must (exact Calls.quiet_of_same (ZI _ _ _ _)))|(go_at_call 78;go_must (exact Calls.quiet_of (Xo of _ _ _ _ _ lo hi hlk (hs.drewN _)))))
     go_wp2
     go_roundw
     case rel=>exact ⟨1,by omega,by go_num,fun j hj=>(by
      have:j=0:=by omega
      subst this;exact HN.out),Jr HQ.out⟩
     case measure=>simp [intOf];omega
    ·obtain ⟨m,rfl⟩:∃ m,k=m+1:=⟨k-1,by omega⟩
     obtain ⟨b',off',ah',ch',e,_,_,hcy0,_⟩:=hc m (by omega)
     cases e
     have hcy:AkCells wr b (off+m*2) (x m) ah' ch':=by rw [hq];exact hcy0.below (B:=b+1) ⟨rfl,rfl,rfl,lrf _,fun _ _=>rfl⟩ (by omega)
     obtain ⟨y0,y1⟩:=hcy
     have hg:decide ((0:Int)<((m+1:Nat):Int))=true:=decide_eq_true (by omega)
     clear hc hq hcy0 hf
     by_cases hlt:(x m).ix<(x (m+1)).ix
     ·have HN:=hid (show (inB (x (m+1)).ix 1 60&&numB of (x (m+1)).n (x (m+1)).s&&(m+1==0||decide ((x ((m+1)-1)).ix<(x (m+1)).ix)))=true by rw [hn,hm];simp [hlt])
      go_wp2
      go_quiet (first|(go_at_call 75;go_must (exact Calls.quiet_of_same (ZI _ _ _ _)))|(go_at_call 78;go_must (exact Calls.quiet_of (Xo of _ _ _ _ _ lo hi hlk (hs.drewN _)))))
      go_wp2
      go_roundw
      case rel=>exact ⟨m+2,by omega,by go_num,fun j hj=>(by
       rcases Nat.lt_or_ge j (m+1) with h3|h3
       ·exact HA.out j h3
       ·have:j=m+1:=by omega
        subst this;exact HN.out),Jr HQ.out⟩
      case measure=>simp [intOf];omega
     ·have HE:=hid (ZQ (p:=fun i=>inB (x i).ix 1 60&&numB of (x i).n (x i).s&&(i==0||decide ((x (i-1)).ix<(x i).ix))) hkn (by rw [hn,hm];simp;omega))
      exact apV2
  ·have HE:=hid (allTo_iff.2 (fun i hi=>HA.out i (by omega)):YP (fun i=>inB (x i).ix 1 60&&numB of (x i).n (x i).s&&(i==0||decide ((x (i-1)).ix<(x i).ix))) n=true)
   clear hc hq hf
   go_wp2
   go_ret
   exact ⟨Zh HE.out.symm,⟨q,HQ.out⟩⟩
theorem JI (a b:Ak) (ad ad2:Option Addr) (cap cap2:Nat) (w:World):Calls Tryz.prog 138 #[akV a ad cap,akV b ad2 cap2] w fun e w'=>e=.returned (.bool (decide (a.ix<b.ix)))∧Below w.1.size w w':=by
 go_enter Tryz.func138,Tryz.ntmps138
 go_wp2
 go_ret
 exact ⟨rfl,(Zb _ _).alloc (by simp) _⟩
theorem ascA_any (n:Nat) (x:Nat→Ak) (ad:Option Addr) (cap:Nat) (w:World) (lo hi:Nat) (hhi:hi≤w.1.size) (hl:(n:Int)≤140737488355328) (hc:AksIn w lo hi ad n x) :
  Calls Tryz.prog 137 #[.slice ad n cap,.func (.func 138) #[] #[]] w fun e w'=>e=.returned (.bool (ascA n x))∧Below w.1.size w w':=by
 go_enter Tryz.func137,Tryz.ntmps137
 go_wp2
 go_loopw [5] (fun i wr=>∃ k:Nat,1≤k∧(k≤n∨k=1)∧i=.int .i64 k∧Hid (∀ j,j<k→(j==0||decide ((x (j-1)).ix<(x j).ix))=true)∧Below w.1.size w wr) (fun i _=>n-(intOf i).toNat)
 case atStart=>exact ⟨1,lrf _,Or.inr rfl,rfl,fun j hj=>(by
   have:j=0:=by omega
   subst this;rfl),br _ _⟩
 case round=>
  obtain ⟨k,hk1,hk,rfl,HA,hb⟩:=hrel
  by_cases hkn:k<n
  ·obtain ⟨m,rfl⟩:∃ m,k=m+1:=⟨k-1,by omega⟩
   obtain ⟨b,off,ah,ch,rfl,hlo,hbh,hcx,_⟩:=hc (m+1) hkn
   obtain ⟨b',off',ah',ch',e,_,hbh',hcm,_⟩:=hc m (by omega)
   cases e
   obtain ⟨d0,d1⟩:=hcx.below hb (by omega)
   obtain ⟨q0,q1⟩:=hcm.below hb (by omega)
   have hbw:b<wr.1.size:=by have:=hb.size;omega
   have rd0:=Zc d0 hbw
   have rd1:=Zc d1 hbw
   have rp0:=Zc q0 hbw
   have rp1:=Zc q1 hbw
   have hne:Nonempty (GW wr):=⟨⟨wr,br _ _⟩⟩
   have hkz:(m:Int)+1≤n:=by omega
   clear hc hk hcx hcm d0 d1 q0 q1
   cases hlt:decide ((x m).ix<(x (m+1)).ix) with
   | false=>
    have HE:=hid (show ascA n x=false from ZQ (p:=fun i=>i==0||decide ((x (i-1)).ix<(x i).ix)) hkn (by simpa using hlt))
    go_wp2
    refine Zf (by kernel_rfl) (by kernel_rfl) ?_
    repeat (go_big_quiet_step ((go_at_call 138;go_must (exact Zp (JI (x m) (x (m+1)) _ _ _ _ _)))))
    refine wpQuiet_nil ?_
    rintro w2 ⟨u,hu⟩
    have hw2:Below wr.1.size wr w2:=hu▸u.prop
    clear hu u
    go_wp2
    go_ret
    exact ⟨Zh HE.out.symm,hb.trans (hw2.mono hb.size)⟩
   | true=>
    have HN:=hid (show (m+1==0||decide ((x (m+1-1)).ix<(x (m+1)).ix))=true by simpa using hlt)
    go_wp2
    refine Zf (by kernel_rfl) (by kernel_rfl) ?_
    repeat (go_big_quiet_step ((go_at_call 138;go_must (exact Zp (JI (x m) (x (m+1)) _ _ _ _ _)))))
    refine wpQuiet_nil ?_
    rintro w2 ⟨u,hu⟩
    have hw2:Below wr.1.size wr w2:=hu▸u.prop
    clear hu u
    go_wp2
    go_roundw
    case rel=>exact ⟨m+2,by omega,Or.inl (by omega),by go_num,fun j hj=>(by
     rcases Nat.lt_or_ge j (m+1) with h3|h3
     ·exact HA.out j h3
     ·have:j=m+1:=by omega
      subst this;exact HN.out),hb.trans (hw2.mono hb.size)⟩
    case measure=>simp [intOf];omega
  ·have HE:=hid (show ascA n x=true from allTo_iff.2 (fun i hi=>HA.out i (by omega)))
   clear hc hk
   go_wp2
   go_ret
   exact ⟨Zh HE.out.symm,hb⟩
theorem acks_any (of:Int) (n:Nat) (x:Nat→Ak) (ad:Option Addr) (cap:Nat) (w:World) (lo hi:Nat) (hhi:hi≤w.1.size) (hl:(n:Int)≤140737488355328) (hf:∀ i,i<n→((x i).n:Int)≤140737488355328) (hc:AksIn w lo hi ad n x) :
  Calls Tryz.prog 96 #[.slice ad n cap,.int .i64 of] w fun e w'=>e=.returned (.bool (aksB of n x))∧Below w.1.size w w':=by
 go_enter Tryz.func96,Tryz.ntmps96
 go_wp2
 go_loopw [9] (fun i wr=>∃ k:Nat,k≤n∧i=.int .i64 k∧Below w.1.size w wr∧Hid (∀ j,j<k→akOk of (x j)=true)) (fun i _=>n-(intOf i).toNat)
 case atStart=>exact ⟨0,zle _,rfl,br _ _,fun j hj=>absurd hj (nlz _)⟩
 case round=>
  obtain ⟨k,hk,rfl,hb,HA⟩:=hrel
  by_cases hkn:k<n
  ·obtain ⟨b,off,ah,ch,rfl,hlo,hbh,hcx,hs⟩:=hc k hkn
   obtain ⟨d0,d1⟩:=hcx.below hb (by omega)
   have hlk:=hf k hkn
   have hs1:=hs.below hb hhi
   have hw1:hi≤wr.1.size:=ltr hhi hb.size
   clear hc hf hcx hs
   cases hn:inB (x k).ix 1 60 with
   | false=>
    have HE:=hid (show aksB of n x=false by rw [aksB,ZQ (p:=fun i=>akOk of (x i)) hkn (by rw [akOk,hn];rfl)];rfl)
    go_wp2_with (first|(go_at_call 93;refine (Zu _ _ _ _).mono ?_;rintro e w1 ⟨rfl,rfl⟩;rw [hn]))
    go_ret
    exact ⟨Zh HE.out.symm,hb.alloc hb.size _⟩
   | true=>
    cases hm:numB of (x k).n (x k).s with
    | false=>
     have HE:=hid (show aksB of n x=false by rw [aksB,ZQ (p:=fun i=>akOk of (x i)) hkn (by rw [akOk,hn,hm];rfl)];rfl)
     go_wp2_with (first|(go_at_call 93;refine (Zu _ _ _ _).mono ?_;rintro e w1 ⟨rfl,rfl⟩;rw [hn])|(go_at_call 94;refine (XC of _ _ _ _ _ lo hi hlk (hs1.alloc hw1 _)).mono ?_;rintro e w1 ⟨rfl,q,rfl⟩;rw [hm]))
     go_ret
     exact ⟨Zh HE.out.symm,(hb.alloc hb.size _).trans ⟨rfl,rfl,rfl,lrf _,fun _ _=>rfl⟩⟩
    | true=>
     have HN:=hid (show akOk of (x k)=true by rw [akOk,hn,hm];rfl)
     go_wp2_with (first|(go_at_call 93;refine (Zu _ _ _ _).mono ?_;rintro e w1 ⟨rfl,rfl⟩;rw [hn])|(go_at_call 94;refine (XC of _ _ _ _ _ lo hi hlk (hs1.alloc hw1 _)).mono ?_;rintro e w1 ⟨rfl,q,rfl⟩;rw [hm]))
     go_roundw
     case rel=>exact ⟨k+1,by omega,by go_num,(hb.alloc hb.size _).trans ⟨rfl,rfl,rfl,lrf _,fun _ _=>rfl⟩,fun j hj=>by
      by_cases e:j=k
      ·rw [e];exact HN.out
      ·exact HA.out j (by omega)⟩
     case measure=>simp [intOf];omega
  ·have HE:=hid (show aksB of n x=ascA n x by rw [aksB,allTo_iff.2 (fun i hi=>HA.out i (by omega))];rfl)
   have hcA:=ascA_any n x ad cap wr lo hi (ltr hhi hb.size) hl (hc.below hb hhi)
   clear hc hf
   go_wp2_with (go_at_call 137;refine hcA.mono ?_;rintro e w1 ⟨rfl,hb1⟩)
   go_ret
   exact ⟨Zh HE.out.symm,hb.trans (hb1.mono hb.size)⟩
def hasB (n:Nat) (s:Nat→ByteArray) (a:ByteArray):Bool:=!YP (fun i=>!decide (s i=a)) n
theorem Kd {n:Nat} {s:Nat→ByteArray} {a:ByteArray} (h:∀ i,i<n→¬s i=a):hasB n s a=false:=by
 unfold hasB
 rw [allTo_iff.2 (fun i hi=>by simp [h i hi])]
 rfl
theorem Jq {n:Nat} {s:Nat→ByteArray} {a:ByteArray} {k:Nat} (hk:k<n) (h:s k=a):hasB n s a=true:=by
 unfold hasB
 rw [ZQ (p:=fun i=>!decide (s i=a)) hk (by simp [h])]
 rfl
theorem toList_inj0 {a b:ByteArray} (h:a.toList=b.toList):a=b:=by
 cases a with|mk a=>cases b with|mk b=>
 have h2:a.toList=b.toList:=by simpa [ByteArray.toList_eq] using h
 exact congrArg ByteArray.mk (Array.ext' h2)
theorem Js {a b:ByteArray} (h:¬a=b):(a.toList==b.toList)=false:=by
 cases hb:(a.toList==b.toList) with
 | false=>rfl
 | true=>exact absurd (toList_inj0 (by simpa using hb)) h
theorem beq_eq {a b:ByteArray} (h:a=b):(a.toList==b.toList)=true:=by rw [h];simp
def Xz (s:Nat→ByteArray) (i:Nat):Bool:=inB (s i).size 1 100 && !hasB i s (s i)
def ZA (n:Nat) (s:Nat→ByteArray):Bool:=decide (n≤20)&&YP (Xz s) n
theorem XP {n k:Nat} {s:Nat→ByteArray} (hk:k<n) (h:Xz s k=false):ZA n s=false:=by unfold ZA;rw [ZQ hk h];simp
theorem KD {n:Nat} {s:Nat→ByteArray} (hn:n≤20) (h:∀ i,i<n→Xz s i=true):ZA n s=true:=by unfold ZA;rw [allTo_iff.2 h];simp [hn]
theorem index_any (n:Nat) (s:Nat→ByteArray) (ad:Option Addr) (cap:Nat) (a:ByteArray) (w:World) (lo hi:Nat) (hl:(n:Int)≤140737488355328) (hc:StrsIn w lo hi ad n s) :
  Calls Tryz.prog 157 #[.slice ad n cap,.string a] w fun e w'=>(∃ v:Int,e=.returned (.int .i64 v)∧decide (0≤v)=hasB n s a)∧w'=w:=by
 go_enter Tryz.func157,Tryz.ntmps157
 go_wp2
 go_loopw [8] (fun i wr=>∃ k:Nat,k≤n∧i=.int .i64 k∧wr=w∧Hid (∀ j,j<k→¬s j=a)) (fun i _=>n-(intOf i).toNat)
 case atStart=>exact ⟨0,zle _,rfl,rfl,fun j hj=>absurd hj (nlz _)⟩
 case round=>
  obtain ⟨k,hk,rfl,rfl,HA⟩:=hrel
  by_cases hkn:k<n
  ·obtain ⟨b,off,rfl,hlo,hbh,hcx⟩:=hc k hkn
   clear hc
   by_cases he:s k=a
   ·subst he
    have HE:=hid (Jq (a:=s k) hkn rfl)
    go_wp2
    go_ret
    exact ⟨⟨_,rfl,by rw [HE.out];simp⟩,rfl⟩
   ·have hb:=Js (fun h=>he h.symm)
    have hb2:=Js he
    have HN:=hid he
    clear he
    go_wp2
    go_roundw
    case rel=>exact ⟨k+1,by omega,by go_num,by first|trivial|rfl,fun j hj=>(by
     rcases Nat.lt_or_ge j k with h3|h3
     ·exact HA.out j h3
     ·have:j=k:=by omega
      subst this;exact HN.out)⟩
    case measure=>simp [intOf];omega
  ·have HE:=hid (Kd (n:=n) (s:=s) (a:=a) (fun i hi=>HA.out i (by omega)))
   clear hc
   go_wp2
   go_ret
   exact ⟨⟨_,rfl,by rw [HE.out];simp⟩,rfl⟩
theorem YV (n:Nat) (s:Nat→ByteArray) (ad:Option Addr) (cap:Nat) (a:ByteArray) (w:World) (lo hi:Nat) (hl:(n:Int)≤140737488355328) (hc:StrsIn w lo hi ad n s) :
  Calls Tryz.prog 128 #[.slice ad n cap,.string a] w fun e w'=>e=.returned (.bool (hasB n s a))∧w'=w:=by
 go_enter Tryz.func128,Tryz.ntmps128
 go_wp2_with fail
 refine (index_any n s ad cap a w lo hi hl hc).mono ?_
 rintro e w1 ⟨⟨v,rfl,hv⟩,rfl⟩
 have HV:=hid hv
 clear hv
 go_wp2
 go_ret
 exact ⟨Zh HV.out,rfl⟩
theorem Ym (a:ByteArray) (w:World) (_hl:(a.size:Int)≤140737488355328):Calls Tryz.prog 127 #[.string a] w fun e w'=>e=.returned (.bool (inB a.size 1 100))∧w'=w:=by
 go_enter Tryz.func127,Tryz.ntmps127
 go_wp2_with (go_at_call 93;refine (Zu _ _ _ _).mono ?_;rintro e w1 ⟨rfl,rfl⟩)
 go_ret
 exact ⟨rfl,rfl⟩
theorem StrsIn.front {w:World} {lo hi:Nat} {ad:Option Addr} {n k:Nat} {x:Nat→ByteArray} (h:StrsIn w lo hi ad n x) (hk:k≤n):StrsIn w lo hi ad k x:=fun i hi'=>h i (by omega)
theorem KZ (n:Nat) (s:Nat→ByteArray) (g o cap:Nat) (w:World) (lo hi:Nat) (hl:(n:Int)≤8796093022208) (hcap:n≤cap) (hf:∀ i,i<n→((s i).size:Int)≤140737488355328) (hc:StrsIn w lo hi (some ⟨g,o,none⟩) n s) :
  Calls Tryz.prog 92 #[.slice (some ⟨g,o,none⟩) n cap] w fun e w'=>e=.returned (.bool (ZA n s))∧w'=w:=by
 by_cases hn:n≤20
 ·go_enter Tryz.func92,Tryz.ntmps92
  go_wp2
  go_loopw [10] (fun i wr=>∃ k:Nat,k≤n∧i=.int .i64 k∧wr=w∧Hid (∀ j,j<k→Xz s j=true)) (fun i _=>n-(intOf i).toNat)
  case atStart=>exact ⟨0,zle _,rfl,rfl,fun j hj=>absurd hj (nlz _)⟩
  case round=>
   obtain ⟨k,hk,rfl,rfl,HA⟩:=hrel
   by_cases hkn:k<n
   ·obtain ⟨b,off,e,hlo,hbh,hcx⟩:=hc k hkn
    cases e
    have hfk:=hf k hkn
    have hF:=hid (hc.front (k:=k) (by omega))
    clear hc hf
    cases h1:inB (s k).size 1 100 with
    | false=>
     have HE:=hid (XP hkn (by rw [Xz,h1];rfl))
     go_wp2_with (first|(go_at_call 127;refine (Ym _ _ hfk).mono ?_;rintro e w1 ⟨rfl,rfl⟩;rw [h1]))
     go_ret
     exact ⟨Zh HE.out.symm,rfl⟩
    | true=>
     cases h2:hasB k s (s k) with
     | true=>
      have HE:=hid (XP hkn (by rw [Xz,h1,h2];rfl))
      go_wp2_with (first|(go_at_call 127;refine (Ym _ _ hfk).mono ?_;rintro e w1 ⟨rfl,rfl⟩;rw [h1])|(go_at_call 128;refine (YV k s _ _ (s k) _ lo hi (by omega) hF.out).mono ?_;rintro e w1 ⟨rfl,rfl⟩;rw [h2]))
      go_ret
      exact ⟨Zh HE.out.symm,rfl⟩
     | false=>
      have HN:=hid (show Xz s k=true by rw [Xz,h1,h2];rfl)
      go_wp2_with (first|(go_at_call 127;refine (Ym _ _ hfk).mono ?_;rintro e w1 ⟨rfl,rfl⟩;rw [h1])|(go_at_call 128;refine (YV k s _ _ (s k) _ lo hi (by omega) hF.out).mono ?_;rintro e w1 ⟨rfl,rfl⟩;rw [h2]))
      go_roundw
      case rel=>exact ⟨k+1,by omega,by go_num,by first|trivial|rfl,fun j hj=>(by
       by_cases e:j=k
       ·rw [e];exact HN.out
       ·exact HA.out j (by omega))⟩
      case measure=>simp [intOf];omega
   ·have HE:=hid (KD (s:=s) hn (fun i hi=>HA.out i (by omega)))
    clear hc hf
    go_wp2
    go_ret
    exact ⟨Zh HE.out.symm,rfl⟩
 ·have HE:=hid (show ZA n s=false by simp [ZA,hn])
  go_enter Tryz.func92,Tryz.ntmps92
  go_wp2
  go_ret
  exact ⟨Zh HE.out.symm,rfl⟩
theorem wishesS_any (n:Nat) (s:Nat→ByteArray) (ad:Option Addr) (cap:Nat) (w:World) (lo hi:Nat) (hl:(n:Int)≤8796093022208) (hf:∀ i,i<n→((s i).size:Int)≤140737488355328) (hc:StrsIn w lo hi ad n s) :
  Calls Tryz.prog 77 #[.slice ad n cap] w fun e w'=>e=.returned (.bool (ZA n s))∧∃ q,w'=w.drewN q:=by
 by_cases hn:n≤20
 ·go_enter Tryz.func77,Tryz.ntmps77
  go_wp2
  go_loopw [3] (fun i wr=>∃ k:Nat,k≤n∧i=.int .i64 k∧Hid (∀ j,j<k→Xz s j=true)∧∃ q,wr=w.drewN q) (fun i _=>n-(intOf i).toNat)
  case atStart=>exact ⟨0,zle _,rfl,fun j hj=>absurd hj (nlz _),0,rfl⟩
  case round=>
   obtain ⟨k,hk,rfl,HA,q,hq⟩:=hrel
   have HQ:=hid hq
   by_cases hkn:k<n
   ·obtain ⟨b,off,rfl,hlo,hbh,hcx0⟩:=hc k hkn
    have hfk:=hf k hkn
    have hcx:wr.cell? ⟨b,off+k,none⟩=some (.string (s k)):=by rw [hq];exact hcx0
    cases h1:inB (s k).size 1 100 with
    | false=>
     have HE:=hid (XP hkn (by rw [Xz,h1];rfl))
     clear hc hf hq
     by_cases h3:((s k).size:Int)<1
     ·go_wp2
      go_ret
      exact ⟨Zh HE.out.symm,q,HQ.out⟩
     ·have h4:¬((s k).size:Int)≤100:=fun h=>by rw [J6 ⟨by omega,h⟩] at h1;cases h1
      go_wp2
      go_ret
      exact ⟨Zh HE.out.symm,q,HQ.out⟩
    | true=>
     obtain ⟨h3,h4⟩:=Yj h1
     have HF:=hid (hc.front (k:=k) (by omega))
     clear hc hf hq
     go_wp2
     go_loopw [4] (fun i w2=>∃ j:Nat,j≤k∧i=.int .i64 j∧Hid (∀ m,m<j→¬s m=s k)∧∃ q,w2=w.drewN q) (fun i _=>k-(intOf i).toNat)
     case atStart=>exact ⟨0,zle _,rfl,fun j hj=>absurd hj (nlz _),q,HQ.out⟩
     case round=>
      obtain ⟨j,hj,rfl,HB,q2,hq2⟩:=hrel
      have HQ2:=hid hq2
      have hcz:wr.cell? ⟨b,off+k,none⟩=some (.string (s k)):=by rw [hq2];exact hcx0
      by_cases hjk:j<k
      ·obtain ⟨b',off',e,_,_,hcj0⟩:=HF.out j hjk
       cases e
       have hcj:wr.cell? ⟨b,off+j,none⟩=some (.string (s j)):=by rw [hq2];exact hcj0
       clear hq2 hcj0 hcx hcx0
       by_cases he:s j=s k
       ·have hb:=beq_eq he
        have HE:=hid (XP hkn (by rw [Xz,Jq hjk he];simp))
        have HN:=hid he
        clear he
        go_wp2
        go_quiet (fail)
        go_wp2
        go_ret
        exact ⟨Zh HE.out.symm,Jr HQ2.out⟩
       ·have hb:=Js he
        have HN:=hid he
        clear he
        go_wp2
        go_quiet (fail)
        go_wp2
        go_roundw
        case rel=>exact ⟨j+1,by omega,by go_num,fun m hm=>(by
         by_cases e:m=j
         ·rw [e];exact HN.out
         ·exact HB.out m (by omega)),Jr HQ2.out⟩
        case measure=>simp [intOf];omega
      ·have HN:=hid (show Xz s k=true by rw [Xz,h1,Kd (fun i hi=>HB.out i (by omega))];rfl)
       clear hq2 hcx hcx0
       go_wp2
       go_roundw
       case rel=>exact ⟨k+1,by omega,by go_num,fun m hm=>(by
        by_cases e:m=k
        ·rw [e];exact HN.out
        ·exact HA.out m (by omega)),q2,HQ2.out⟩
       case measure=>simp [intOf];omega
   ·have HE:=hid (KD (s:=s) hn (fun i hi=>HA.out i (by omega)))
    clear hc hf hq
    go_wp2
    go_ret
    exact ⟨Zh HE.out.symm,q,HQ.out⟩
 ·have HE:=hid (show ZA n s=false by simp [ZA,hn])
  go_enter Tryz.func77,Tryz.ntmps77
  go_wp2
  go_ret
  exact ⟨Zh HE.out.symm,0,rfl⟩
def Km (r:Rc):Bool:=inB r.bal 1 r.dk.pr
def J4 (r:Rc):Bool:=Km r&&(((r.yn:Int)==0)&&((r.bn:Int)==0))
def tryB (r:Rc):Bool:=Km r&&((r.an:Int)==0)
def Xw (r:Rc):Bool:=(r.bal==0)&&(((r.yn:Int)==0)&&(((r.bn:Int)==0)&&((r.an:Int)==0)))
def YD (r:Rc):Bool:=(!r.ld)&&((!r.tr)&&(((r.hn:Int)==0)&&(((r.wn:Int)==0)&&(r.hd==0))))
theorem ballot_any (r:Rc) (A:RcA) (w:World):Calls Tryz.prog 204 #[rcV r A] w fun e w'=>e=.returned (.bool (Km r))∧Below w.1.size w w':=by
 go_enter Tryz.func204,Tryz.ntmps204
 go_wp2_with (go_at_call 93;refine (Zu _ _ _ _).mono ?_;rintro e w1 ⟨rfl,rfl⟩)
 go_ret
 exact ⟨rfl,Zb _ _⟩
theorem apV0 {P:Prop} (h:P:=by
  go_wp2_with (first|(go_at_call 204;refine (ballot_any r A _).mono ?_;rintro e w1 ⟨rfl,hb1⟩;rw [h0];have p14:=(hb1.cell (p:=⟨w.1.size+1,14,none⟩) (by simp)).trans (by simp:_=some (.slice A.ya r.yn A.yc));have p15:=(hb1.cell (p:=⟨w.1.size+1,15,none⟩) (by simp)).trans (by simp:_=some (.slice A.ba r.bn A.bc));have p16:=(hb1.cell (p:=⟨w.1.size+1,16,none⟩) (by simp)).trans (by simp:_=some (.slice A.aa r.an A.ac))))
  go_ret
  exact ⟨Zh HB.out.symm,(Zb _ _).trans (((Zb _ _).trans (hb1.mono (by simp))).mono (by simp))⟩):P:=h
theorem Kf (r:Rc) (A:RcA) (w:World):Calls Tryz.prog 203 #[.agg #[],rcV r A] w fun e w'=>e=.returned (.bool (J4 r))∧Below w.1.size w w':=by
 obtain ⟨b0,h0⟩:∃ b,Km r=b:=⟨_,rfl⟩
 obtain ⟨b1,h1⟩:∃ b,((r.yn:Int)==0)=b:=⟨_,rfl⟩
 obtain ⟨b2,h2⟩:∃ b,((r.bn:Int)==0)=b:=⟨_,rfl⟩
 have HB:=hid (show J4 r=(b0&&(b1&&b2)) by rw [←h0,←h1,←h2];rfl)
 cases b0
 ·go_enter Tryz.func203,Tryz.ntmps203
  exact apV0
 cases b1
 ·go_enter Tryz.func203,Tryz.ntmps203
  exact apV0
 go_enter Tryz.func203,Tryz.ntmps203
 exact apV0
theorem KM (r:Rc) (A:RcA) (w:World):Calls Tryz.prog 205 #[.agg #[],rcV r A] w fun e w'=>e=.returned (.bool (tryB r))∧Below w.1.size w w':=by
 obtain ⟨b0,h0⟩:∃ b,Km r=b:=⟨_,rfl⟩
 obtain ⟨b1,h1⟩:∃ b,((r.an:Int)==0)=b:=⟨_,rfl⟩
 have HB:=hid (show tryB r=(b0&&b1) by rw [←h0,←h1];rfl)
 cases b0
 ·go_enter Tryz.func205,Tryz.ntmps205
  exact apV0
 go_enter Tryz.func205,Tryz.ntmps205
 exact apV0
theorem apV5 {P:Prop} (h:P:=by
  go_enter Tryz.func206,Tryz.ntmps206
  go_wp2
  go_ret
  exact ⟨Zh HB.out.symm,(Zb _ _).alloc (by simp) _⟩):P:=h
theorem JH (r:Rc) (A:RcA) (w:World):Calls Tryz.prog 206 #[.agg #[],rcV r A] w fun e w'=>e=.returned (.bool (Xw r))∧Below w.1.size w w':=by
 obtain ⟨b0,h0⟩:∃ b,(r.bal==0)=b:=⟨_,rfl⟩
 obtain ⟨b1,h1⟩:∃ b,((r.yn:Int)==0)=b:=⟨_,rfl⟩
 obtain ⟨b2,h2⟩:∃ b,((r.bn:Int)==0)=b:=⟨_,rfl⟩
 obtain ⟨b3,h3⟩:∃ b,((r.an:Int)==0)=b:=⟨_,rfl⟩
 have HB:=hid (show Xw r=(b0&&(b1&&(b2&&b3))) by rw [←h0,←h1,←h2,←h3];rfl)
 cases b0
 ·exact apV5
 cases b1
 ·exact apV5
 cases b2
 ·exact apV5
 exact apV5
theorem apV3 {P:Prop} (h:P:=by
  go_enter Tryz.func98,Tryz.ntmps98
  go_wp2
  go_ret
  exact ⟨Zh HB.out.symm,Zb _ _⟩):P:=h
theorem Ul (r:Rc) (A:RcA) (w:World):Calls Tryz.prog 98 #[rcV r A] w fun e w'=>e=.returned (.bool (YD r))∧Below w.1.size w w':=by
 obtain ⟨b0,h0⟩:∃ b,(!r.ld)=b:=⟨_,rfl⟩
 obtain ⟨b1,h1⟩:∃ b,(!r.tr)=b:=⟨_,rfl⟩
 obtain ⟨b2,h2⟩:∃ b,((r.hn:Int)==0)=b:=⟨_,rfl⟩
 obtain ⟨b3,h3⟩:∃ b,((r.wn:Int)==0)=b:=⟨_,rfl⟩
 obtain ⟨b4,h4⟩:∃ b,(r.hd==0)=b:=⟨_,rfl⟩
 have HB:=hid (show YD r=(b0&&(b1&&(b2&&(b3&&b4)))) by rw [←h0,←h1,←h2,←h3,←h4];rfl)
 cases b0
 ·exact apV3
 cases b1
 ·exact apV3
 cases b2
 ·exact apV3
 cases b3
 ·exact apV3
 exact apV3
end Go.Proofs.YtokkbdlofbdljaaGreat
