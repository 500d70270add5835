import Derived.Test.YtokkbdlofbdljaaGreatWc0
import Derived.Test.YtokkbdlofbdljaaGreatWc1
import Derived.Test.YtokkbdlofbdljaaGreatWc2
import Derived.Test.YtokkbdlofbdljaaGreatWr0
import Derived.Test.YtokkbdlofbdljaaGreatWr1
import Derived.Test.YtokkbdlofbdljaaGreatWr2
import Derived.Test.YtokkbdlofbdljaaGreatV
import Derived.Deep.AppendSrc
import Derived.Maps.AppendAt
import Derived.Lib.AppendZerosOnto
namespace Go.Proofs.YtokkbdlofbdljaaGreat
open Go.RowKit
set_option maxHeartbeats 8000000
set_option maxRecDepth 100000 in
abbrev Gu:String:= "slices.go:154"
abbrev Gv:String:= "l13_rec_recorder.go:103"
abbrev Gw:String:= "l14_rec_take.go:61"
abbrev Gx:String:= "l14_rec_take.go:239"
abbrev Gy:String:= "l13_rec_recorder.go:138"
abbrev Gz:String:= "l14_rec_take.go:264"
abbrev GA:String:= "l14_rec_take.go:202"
abbrev GC:String:= "l14_rec_take.go:81"
abbrev GD:String:= "l14_rec_take.go:79"
abbrev GE:String:= "l14_rec_take.go:192"
abbrev GG:String:= "l14_rec_take.go:98"
abbrev GH:String:= "l15_rec_tick.go:151"
abbrev GI:String:= "l15_rec_tick.go:126"
abbrev GK:String:= "l15_rec_tick.go:92"
abbrev GL:String:= "l15_rec_tick.go:110"
abbrev GM:String:= "l15_rec_tick.go:131"
abbrev GN:String:= "l15_rec_tick.go:86"
abbrev GO:String:= "l15_rec_tick.go:71"
abbrev GP:String:= "l15_rec_tick.go:91"
abbrev GR:String:= "l15_rec_tick.go:137"
abbrev GS:String:= "l15_rec_tick.go:142"
abbrev GT:String:= "l15_rec_tick.go:147"
abbrev GU:String:= "l15_rec_tick.go:120"
abbrev GZ:String:= "slices.go:178"
abbrev Qa:String:= "l15_rec_tick.go:146"
abbrev Qb:String:= "l15_rec_tick.go:82"
abbrev Qc:String:= "l15_rec_tick.go:41"
abbrev Qd:String:= "l15_rec_tick.go:42"
abbrev Qe:String:= "l15_rec_tick.go:47"
abbrev Qf:String:= "l15_rec_tick.go:67"
abbrev Qg:String:= "exact.go:2912"
theorem ivBoth (r0:Rc) (A:RcA) (w:World):Calls Tryz.prog 47 #[rcV (setR r0 true true r0.up) A] w fun e w'=>e=.returned (.bool false)∧Below w.1.size w w':=by
 go_enter Tryz.func47,Tryz.ntmps47
 go_wp2
 go_ret
 exact ⟨rfl,Zb _ _⟩
theorem ID (r:Rc) (A:RcA) (w:World) (lo hi:Nat) (hhi:hi≤w.1.size) (hf:ZR r) (hn:ZX r A) (hc:RcIn w lo hi r A) (hl:(r.ld&&r.tr)=false) :
  Calls Tryz.prog 47 #[rcV r A] w fun e w'=>e=.returned (.bool (Yw r))∧Below w.1.size w w':=by
 cases h0:Yc r.num r.of with
 | false=>
  have e:Yw r=false:=by simp only [Yw,h0,Bool.false_and]
  rw [e]
  exact iv0 r A w lo hi hhi hf hn hc (hid hl) h0
 | true=>
 cases h1:dkB r.sf with
 | false=>
  have e:Yw r=false:=by simp only [Yw,h0,h1,Bool.false_and,Bool.true_and]
  rw [e]
  exact iv1 r A w lo hi hhi hf hn hc (hid hl) h0 h1
 | true=>
 cases h2:dkB r.dk with
 | false=>
  have e:Yw r=false:=by simp only [Yw,h0,h1,h2,Bool.false_and,Bool.true_and]
  rw [e]
  exact iv2 r A w lo hi hhi hf hn hc (hid hl) h0 h1 h2
 | true=>
 cases h3:ZZ r with
 | false=>
  have e:Yw r=false:=by simp only [Yw,h0,h1,h2,h3,Bool.false_and,Bool.true_and]
  rw [e]
  exact iv3 r A w lo hi hhi hf hn hc (hid hl) h0 h1 h2 h3
 | true=>
 cases h4:ZA r.wn r.ws with
 | false=>
  have e:Yw r=false:=by simp only [Yw,h0,h1,h2,h3,h4,Bool.false_and,Bool.true_and]
  rw [e]
  exact iv4 r A w lo hi hhi hf hn hc (hid hl) h0 h1 h2 h3 h4
 | true=>
 cases h5:inB r.hd 0 1000000 with
 | false=>
  have e:Yw r=false:=by simp only [Yw,h0,h1,h2,h3,h4,h5,Bool.false_and,Bool.true_and]
  rw [e]
  exact iv5 r A w lo hi hhi hf hn hc (hid hl) h0 h1 h2 h3 h4 h5
 | true=>
 cases h6:numB r.of r.yn r.ys with
 | false=>
  have e:Yw r=false:=by simp only [Yw,h0,h1,h2,h3,h4,h5,h6,Bool.false_and,Bool.true_and]
  rw [e]
  exact iv6 r A w lo hi hhi hf hn hc (hid hl) h0 h1 h2 h3 h4 h5 h6
 | true=>
 cases h7:slsB r.bn r.bs with
 | false=>
  have e:Yw r=false:=by simp only [Yw,h0,h1,h2,h3,h4,h5,h6,h7,Bool.false_and,Bool.true_and]
  rw [e]
  exact iv7 r A w lo hi hhi hf hn hc (hid hl) h0 h1 h2 h3 h4 h5 h6 h7
 | true=>
 cases h8:aksB r.of r.an r.as_ with
 | false=>
  have e:Yw r=false:=by simp only [Yw,h0,h1,h2,h3,h4,h5,h6,h7,h8,Bool.false_and,Bool.true_and]
  rw [e]
  exact iv8 r A w lo hi hhi hf hn hc (hid hl) h0 h1 h2 h3 h4 h5 h6 h7 h8
 | true=>
 have e:Yw r=(Xj r&&(r.up||YD r)):=by simp only [Yw,h0,h1,h2,h3,h4,h5,h6,h7,h8,Bool.true_and]
 rw [e]
 clear e
 cases hld:r.ld
 ·cases htr:r.tr
  ·rw [show Xj r=Xw r by unfold Xj;rw [hld];first|rfl|(rw [htr];rfl)]
   cases h9:Xw r
   ·exact iv9ff r A w lo hi hhi hf hn hc (hid hld) (hid htr) h0 h1 h2 h3 h4 h5 h6 h7 h8 h9
   ·cases hup:r.up
    ·cases h10:YD r
     ·exact iv10ff r A w lo hi hhi hf hn hc (hid hld) (hid htr) h0 h1 h2 h3 h4 h5 h6 h7 h8 h9 (hid hup) h10
     ·exact iv11bff r A w lo hi hhi hf hn hc (hid hld) (hid htr) h0 h1 h2 h3 h4 h5 h6 h7 h8 h9 (hid hup) h10
    ·exact iv11uff r A w lo hi hhi hf hn hc (hid hld) (hid htr) h0 h1 h2 h3 h4 h5 h6 h7 h8 h9 (hid hup)
  ·rw [show Xj r=tryB r by unfold Xj;rw [hld];first|rfl|(rw [htr];rfl)]
   cases h9:tryB r
   ·exact iv9ft r A w lo hi hhi hf hn hc (hid hld) (hid htr) h0 h1 h2 h3 h4 h5 h6 h7 h8 h9
   ·cases hup:r.up
    ·cases h10:YD r
     ·exact iv10ft r A w lo hi hhi hf hn hc (hid hld) (hid htr) h0 h1 h2 h3 h4 h5 h6 h7 h8 h9 (hid hup) h10
     ·exact iv11bft r A w lo hi hhi hf hn hc (hid hld) (hid htr) h0 h1 h2 h3 h4 h5 h6 h7 h8 h9 (hid hup) h10
    ·exact iv11uft r A w lo hi hhi hf hn hc (hid hld) (hid htr) h0 h1 h2 h3 h4 h5 h6 h7 h8 h9 (hid hup)
 ·cases htr:r.tr
  ·rw [show Xj r=J4 r by unfold Xj;rw [hld];first|rfl|(rw [htr];rfl)]
   cases h9:J4 r
   ·exact iv9tf r A w lo hi hhi hf hn hc (hid hld) (hid htr) h0 h1 h2 h3 h4 h5 h6 h7 h8 h9
   ·cases hup:r.up
    ·cases h10:YD r
     ·exact iv10tf r A w lo hi hhi hf hn hc (hid hld) (hid htr) h0 h1 h2 h3 h4 h5 h6 h7 h8 h9 (hid hup) h10
     ·exact iv11btf r A w lo hi hhi hf hn hc (hid hld) (hid htr) h0 h1 h2 h3 h4 h5 h6 h7 h8 h9 (hid hup) h10
    ·exact iv11utf r A w lo hi hhi hf hn hc (hid hld) (hid htr) h0 h1 h2 h3 h4 h5 h6 h7 h8 h9 (hid hup)
  ·rw [hld,htr] at hl
   cases hl
theorem Uz (r:Rc) (A:RcA) (w:World) (lo hi:Nat) (hhi:hi≤w.1.size) (hf:ZR r) (hn:ZX r A) (hc:RcIn w lo hi r A) :
  Calls Tryz.prog 47 #[rcV r A] w fun e w'=>e=.returned (.bool (rcB r))∧Below w.1.size w w':=by
 cases hl:(r.ld&&r.tr) with
 | false=>
  have e:rcB r=Yw r:=by simp only [rcB,hl,Bool.not_false,Bool.true_and]
  rw [e]
  exact ID r A w lo hi hhi hf hn hc hl
 | true=>
  have e:rcB r=false:=by simp only [rcB,hl,Bool.not_true,Bool.false_and]
  rw [e]
  rw [Bool.and_eq_true] at hl
  obtain ⟨num,of,up,sf,dk,hn',hs',wn,ws,ld,tr,bal,yn,ys,bn,bs,an,as',hd⟩:=r
  obtain ⟨h1,h2⟩:=hl
  dsimp only at h1 h2
  subst h1
  subst h2
  exact ivBoth ⟨num,of,up,sf,dk,hn',hs',wn,ws,true,true,bal,yn,ys,bn,bs,an,as',hd⟩ A w
theorem Zq {P:Program} {ops:Array Oper} {rest:List Oper} {o:Oper} {a:Act} {w:World} {Q:Exit→Act→World→Prop} (hgd:o.guard=none) (s x:Operand) (t tx:TypeId)
  (ho:o.op=.call { callee:=.builtin .append,args:=#[s,x],argTypes:=#[t,tx] }) (v xv v2:Value) (w2:World) (hs:a.eval s=v) (hx:a.eval x=xv) (hr:(Builtin.append_ #[t,tx] o.type #[v,xv]).run P w=.ok v2 w2)
  (h:wpList P ops Q rest (a.put o.dst v2) w2):wpList P ops Q (o::rest) a w:=by
 refine wpList_plain hgd fun K hK=>?_
 unfold Oper.wp execOp
 simp only [ho,resolve,invoke,builtin,Sem.run_bind,Sem.run_pure,Result.andThen_ok,List.map_toArray,List.map_cons,List.map_nil,hs,hx,hr]
 exact hK _ _ h
def XD (c:Nat→Value) (m:Nat) (d:Nat→Value) (j:Nat):Value:=if j<m then c j else d (j-m)
theorem JW (c d:Nat→Value) (m k:Nat):Zg m c ++ Zg k d=Zg (m+k) (XD c m d):=by
 apply List.ext_getElem
 ·simp [Zg]
 ·intro j h1 h2
  have hj:j<m+k:=by simpa [Zg] using h2
  rw [ZG,List.getElem_append]
  unfold XD
  by_cases h:j<m
  ·rw [dif_pos (by rw [Zj];exact h),ZG,if_pos h]
  ·rw [dif_neg (by rw [Zj];exact h),if_neg h,ZG]
   simp only [Zj]
theorem SrcRow.cells {P:Program} {w:World} {lo hi:Nat} {ad:Option Addr} {n z cap:Nat} {c:Nat→Value} (h:SrcRow w lo hi ad (n*z) c) (hz:0<z):(Builtin.firstCells z n (.slice ad n cap)).run P w=.ok (Zg (n*z) c).toArray w:=by
 cases ad with
 | none=>
  have h0:n=0:=by
   rcases Nat.eq_zero_or_pos n with h0|h0
   ·exact h0
   ·obtain ⟨b,off,e,_⟩:=h.at_ 0 (Nat.mul_pos h0 hz)
    cases e
  subst h0
  rw [run_firstCells_none]
  simp [Zg]
 | some a=>
  refine run_firstCells_some w z n a n cap _ (by rw [Zj]) (fun j v hv=>?_)
  obtain ⟨h1,rfl⟩:=ZP hv
  obtain ⟨b,off,e,_,_,e4⟩:=h.at_ j h1
  cases e
  rw [show ((⟨b,off,none⟩:Addr).add j)=⟨b,off+j,none⟩ by simp [Addr.add]]
  exact e4
theorem SrcRow.drew {w:World} {lo hi:Nat} {ad:Option Addr} {m:Nat} {c:Nat→Value} (h:SrcRow w lo hi ad m c):SrcRow w.drew lo hi ad m c:=⟨fun j hj=>h.at_ j hj,h.one⟩
theorem SrcRow.src {P:Program} {w:World} {lo hi:Nat} {ad:Option Addr} {n z cap:Nat} {c:Nat→Value} (h:SrcRow w lo hi ad (n*z) c) (hz:0<z) {t e:TypeId} (ht:P.underlying t=some (.slice e)):Src P z t (.slice ad n cap) n (Zg (n*z) c) w:=
 ⟨.inl ⟨e,ht⟩,fun _=>rfl,h.cells hz,h.drew.cells hz,by rw [Zj],fun u hu=>by
  obtain ⟨j,hj,rfl⟩:=List.mem_map.1 hu
  exact h.one j (by simpa using hj)⟩
theorem apSb5 {P:Prop} (h:P:=by
  have:=World.frozen?_alloc_mark w.drew ((Zg (n*z+m*z) (XD c (n*z) d)).toArray ++ Builtin.zeroCells zv.cells (grownCap w (n+m) cap e-(n+m))) e 0 0 j
  rw [show w.drew.1.size=w.1.size from rfl] at this
  simpa using this):P:=h
theorem Yp {P:Program} (w:World) (t ty e:TypeId) (z bytes:Nat) (zv:Value) (ht:P.underlying t=some (.slice e)) (hinf:(P.info? e).map (fun i=>(i.zero,i.size,i.bytes))=some (some zv,z,bytes)) (hz:0<z)
  (lo hi lo2 hi2:Nat) (ad:Option Addr) (n cap:Nat) (c:Nat→Value) (hc:SrcRow w lo hi ad (n*z) c) (ad2:Option Addr) (m cap2:Nat) (d:Nat→Value) (hd:SrcRow w lo2 hi2 ad2 (m*z) d)
  (hg:cap<n+m) (h63:((n+m:Nat):Int)≤9223372036854775807) (hb:(n+m)*bytes≤140737488355328) :
  ∃ cap' w',(Builtin.append_ #[t,t] ty #[.slice ad n cap,.slice ad2 m cap2]).run P w=.ok (.slice (some ⟨w.1.size,0,none⟩) (n+m) cap') w'∧RowF w' w.1.size ((n+m)*z) (XD c (n*z) d)∧Below w.1.size w w'∧n+m≤cap'∧(zv.cells.size=z→Room w' w.1.size (cap'*z)):=by
 obtain ⟨i0,hi0,hz0,hz1,hz2⟩:=info_parts hinf
 have hrun:=run_append_grow_src (P:=P) w t t ty e i0 zv ht hi0 hz0 ad n cap (Zg (n*z) c) (by rw [hz1];exact hc.drew.cells hz) (.slice ad2 m cap2) m (Zg (m*z) d) (by rw [hz1];exact hd.src hz ht) hg h63 (growslice_fits hg (by rw [hz2];exact hb))
 rw [JW] at hrun
 have hcg:=grownCap_ge w (n+m) cap e
 refine ⟨_,_,hrun,⟨?_,fun j=>?_,fun j hj=>?_⟩,((br _ _).drew).alloc (lrf _) _,hcg,fun hzs=>⟨fun j hj=>?_,fun j=>?_,?_⟩⟩
 ·rw [World.size_alloc];exact Nat.lt_succ_self _
 ·exact apSb5
 ·have:=World.cell?_alloc_new w.drew ((Zg (n*z+m*z) (XD c (n*z) d)).toArray ++ Builtin.zeroCells zv.cells (grownCap w (n+m) cap e-(n+m))) e j
  rw [show w.drew.1.size=w.1.size from rfl] at this
  have hj':j<n*z+m*z:=by rw [Nat.add_mul] at hj;exact hj
  rw [this,Array.getElem?_append_left (by simp [Zj,hj']),List.getElem?_toArray,List.getElem?_eq_getElem (by rw [Zj];exact hj'),ZG]
 ·have:=World.cell?_alloc_new w.drew ((Zg (n*z+m*z) (XD c (n*z) d)).toArray ++ Builtin.zeroCells zv.cells (grownCap w (n+m) cap e-(n+m))) e j
  rw [show w.drew.1.size=w.1.size from rfl] at this
  have hs:((Zg (n*z+m*z) (XD c (n*z) d)).toArray ++ Builtin.zeroCells zv.cells (grownCap w (n+m) cap e-(n+m))).size=grownCap w (n+m) cap e*z:=by
   rw [Array.size_append,size_zeroCells,hzs,List.size_toArray,Zj,←Nat.add_mul,←Nat.add_mul]
   congr 1
   omega
  rw [this,Array.getElem?_eq_getElem (by omega)]
  exact ⟨_,rfl⟩
 ·exact apSb5
 ·rw [World.size_alloc];exact Nat.lt_succ_self _
theorem SlsIn.take {w:World} {lo hi:Nat} {ad:Option Addr} {n m:Nat} {x:Nat→Sl} (h:SlsIn w lo hi ad n x) (hm:m≤n):SlsIn w lo hi ad m x:=fun i hi'=>h i (by omega)
theorem Nr (a b:ByteArray):(a.toList==b.toList)=decide (a=b):=by
 by_cases h:a=b
 ·subst h;simp
 ·rw [Js h];simp [h]
set_option maxRecDepth 100000 in
theorem IF (x:Sl) (q:Nat) (a:ByteArray) (w:World) (hq:q<w.1.size) (hc:w.cell? ⟨q,0,none⟩=some (.string a)) :
  Calls Tryz.prog 159 #[slV x,.pointer (some ⟨q,0,none⟩)] w fun e w'=>e=.returned (.bool (decide (x.text=a)))∧Below w.1.size w w':=by
 go_enter Tryz.func159,Tryz.ntmps159
 go_wp2
 go_ret
 exact ⟨Zh (Nr _ _),Zb _ _⟩
set_option maxRecDepth 100000 in
theorem IB (n:Nat) (x:Nat→Sl) (ad:Option Addr) (cap q:Nat) (a:ByteArray) (w:World) (lo hi:Nat) (hhi:hi≤w.1.size) (hl:(n:Int)≤1048576) (hq:q<w.1.size) (hqc:w.cell? ⟨q,0,none⟩=some (.string a)) (hc:SlsIn w lo hi ad n x) :
  Calls Tryz.prog 170 #[.slice ad n cap,.func (.func 159) #[] #[.pointer (some ⟨q,0,none⟩)]] w fun e w'=>∃ r:Int,e=.returned (.int .i64 r)∧decide (0≤r)=hasB n (fun i=>(x i).text) a∧Below w.1.size w w':=by
 have HC:=hid hc
 have HQ:=hid hqc
 clear hc hqc
 go_enter Tryz.func170,Tryz.ntmps170
 go_wp2
 go_loopw [5,8] (fun _ i wr=>∃ k:Nat,k≤n∧i=.int .i64 k∧Hid (∀ j,j<k→¬(x j).text=a)∧Below w.1.size w wr) (fun _ i _=>n-(intOf i).toNat)
 case atStart=>exact ⟨0,zle _,rfl,fun j hj=>absurd hj (nlz _),br _ _⟩
 case round=>
  obtain ⟨k,hk,rfl,HN,hb⟩:=hrel
  by_cases hkn:k<n
  ·obtain ⟨b,off,rfl,hlo,hbh,hcx⟩:=HC.out k hkn
   obtain ⟨c0,c1⟩:=hcx.below hb (by omega)
   have hcall:=hid (IF (x k) q a wr (ltl hq hb.size) ((hb.cell (p:=⟨q,0,none⟩) hq).trans HQ.out))
   by_cases hpe:(x k).text=a
   ·have HE:=hid (Jq (s:=fun i=>(x i).text) hkn hpe)
    have HT:=hid (show decide ((x k).text=a)=true by simp [hpe])
    have HP:=hid hpe
    clear hpe hcx
    go_wp2_with (go_at_call 159;go_must (refine hcall.out.mono ?_;rintro e2 w2 ⟨rfl,hb2⟩;rw [HT.out]))
    go_ret
    exact ⟨_,rfl,by rw [HE.out];simp,hb.trans (hb2.mono hb.size)⟩
   ·have HT:=hid (show decide ((x k).text=a)=false by simp [hpe])
    have HP:=hid hpe
    clear hpe hcx
    go_wp2_with (go_at_call 159;go_must (refine hcall.out.mono ?_;rintro e2 w2 ⟨rfl,hb2⟩;rw [HT.out]))
    go_roundw
    case rel=>exact ⟨k+1,by omega,by go_num,(fun j hj=>by
     rcases Nat.lt_or_ge j k with h|h
     ·exact HN.out j h
     ·obtain rfl:j=k:=by omega
      exact HP.out:∀ j,j<k+1→¬(x j).text=a),hb.trans (hb2.mono hb.size)⟩
    case measure=>simp [intOf];omega
  ·have HE:=hid (Kd (n:=n) (s:=fun i=>(x i).text) (a:=a) (fun i hi'=>HN.out i (by omega)))
   go_wp2
   go_ret
   exact ⟨_,rfl,by rw [HE.out];rfl,hb⟩
set_option maxRecDepth 100000 in
theorem UC (n:Nat) (x:Nat→Sl) (ad:Option Addr) (cap q:Nat) (a:ByteArray) (w:World) (lo hi:Nat) (hhi:hi≤w.1.size) (hl:(n:Int)≤1048576) (hq:q<w.1.size) (hqc:w.cell? ⟨q,0,none⟩=some (.string a)) (hc:SlsIn w lo hi ad n x) :
  Calls Tryz.prog 158 #[.slice ad n cap,.func (.func 159) #[] #[.pointer (some ⟨q,0,none⟩)]] w fun e w'=>e=.returned (.bool (hasB n (fun i=>(x i).text) a))∧Below w.1.size w w':=by
 have hcall:=hid (IB n x ad cap q a w lo hi hhi hl hq hqc hc)
 clear hc hqc
 go_enter Tryz.func158,Tryz.ntmps158
 go_wp2_with fail
 refine hcall.out.mono ?_
 rintro e w1 ⟨r,rfl,hr,hb⟩
 have HR:=hid hr
 clear hr
 go_wp2
 go_ret
 exact ⟨Zh (by rw [←HR.out]),hb⟩
set_option maxRecDepth 100000 in
theorem KK (n:Nat) (x:Nat→Sl) (ad:Option Addr) (cap:Nat) (a:ByteArray) (w:World) (lo hi:Nat) (hhi:hi≤w.1.size) (hl:(n:Int)≤1048576) (hc:SlsIn w lo hi ad n x) :
  Calls Tryz.prog 129 #[.slice ad n cap,.string a] w fun e w'=>e=.returned (.bool (hasB n (fun i=>(x i).text) a))∧Below w.1.size w w':=by
 have HC:=hid hc
 clear hc
 go_enter Tryz.func129,Tryz.ntmps129
 go_wp2_with fail
 refine (UC n x ad cap w.1.size a _ lo hi (by simp;omega) hl (by simp) (Zt w _ _ 0) (HC.out.below (Zb _ _) hhi)).mono ?_
 rintro e w1 ⟨rfl,hb⟩
 have hB:Below w.1.size w w1:=(Zb _ _).trans (hb.mono (by simp))
 clear hb
 go_wp2
 go_ret
 exact ⟨rfl,hB⟩
set_option maxRecDepth 100000 in
theorem Ez (d:Dk) (ad:Option Addr) (cap:Nat) (w:World) (h0:0≤d.kn) (h1:d.kn≤d.n) (hcap:d.n≤cap) (hsome:∃ g,ad=some ⟨g,0,none⟩∨(ad=none∧d.n=0∧cap=0)) :
  Calls Tryz.prog 130 #[dkV d ad cap] w fun e w'=>∃ cap',e=.returned (.slice ad d.kn.toNat cap')∧Below w.1.size w w':=by
 obtain ⟨k,hk⟩:∃ k:Nat,d.kn=k:=⟨d.kn.toNat,by omega⟩
 rw [hk]
 rw [hk] at h0 h1
 have hkk:k≤d.n:=by omega
 obtain ⟨g,rfl|⟨rfl,hn0,rfl⟩⟩:=hsome
 ·go_enter Tryz.func130,Tryz.ntmps130
  go_wp2
  go_ret
  exact ⟨_,by first|rfl|simp,Zb _ _⟩
 ·obtain rfl:k=0:=by omega
  go_enter Tryz.func130,Tryz.ntmps130
  go_wp2
  go_ret
  exact ⟨_,by first|rfl|simp,Zb _ _⟩
end Go.Proofs.YtokkbdlofbdljaaGreat
namespace Go.Proofs.YtokkbdlofbdljaaGreat
open Go.RowKit
theorem RowF.congr {w:World} {g m:Nat} {c d:Nat→Value} (h:RowF w g m c) (e:∀ j,j<m→c j=d j):RowF w g m d:=⟨h.lt,h.free,fun j hj=>(h.cell j hj).trans (congrArg some (e j hj))⟩
theorem SlsAt.isIn {w:World} {ad:Option Addr} {g n:Nat} {x:Nat→Sl} (h:SlsAt w ad g n x) {lo hi:Nat} (hlo:n≠0→lo≤g∧g<hi):SlsIn w lo hi ad n x:=fun i hi'=>by
 obtain ⟨c,r,a⟩:=h.row (by omega)
 obtain ⟨a0,a1⟩:=a i hi'
 have:=hlo (by omega)
 exact ⟨g,0,h.addr (by omega),this.1,this.2,⟨by rw [Nat.zero_add];exact (r.cell _ (by omega)).trans (congrArg some a0),by rw [Nat.zero_add];exact (r.cell _ (by omega)).trans (congrArg some a1)⟩⟩
theorem StrsOwn.in0 {w:World} {b:Nat} {ad:Option Addr} {n:Nat} {s:Nat→ByteArray} (h:StrsOwn w b (b+1) ad n s) {lo hi:Nat} (hlo:n≠0→lo≤b∧b<hi):StrsIn w lo hi ad n s:=fun i hi'=>by
 obtain ⟨q,off,e1,e2,e3,e4,_⟩:=h i hi'
 have:=hlo (by omega)
 exact ⟨q,off,e1,by omega,by omega,e4⟩
theorem IntsOwn.in0 {w:World} {b:Nat} {ad:Option Addr} {n:Nat} {s:Nat→Int} (h:IntsOwn w b (b+1) ad n s) {lo hi:Nat} (hlo:n≠0→lo≤b∧b<hi):IntsIn w lo hi ad n s:=fun i hi'=>by
 obtain ⟨q,off,e1,e2,e3,e4,_⟩:=h i hi'
 have:=hlo (by omega)
 exact ⟨q,off,e1,by omega,by omega,e4⟩
theorem MssAt.isIn {w:World} {ad:Option Addr} {g n:Nat} {x:Nat→Ms} {A:Nat→Option Addr} {C hb:Nat→Nat} (h:MssAt w ad g n x A C hb) {lo hi:Nat} (hlo:∀ k,blkH g n (fun i=>(x i).n) hb k→lo≤k∧k<hi):MssIn w lo hi ad n x:=fun i hi'=>by
 obtain ⟨c,r,a⟩:=h.row (by omega)
 obtain ⟨a0,a1,a2,a3,a4,a5,a6,a7⟩:=a i hi'
 have:=hlo g (Or.inl ⟨by omega,rfl⟩)
 exact ⟨g,0,A i,C i,h.addr (by omega),this.1,this.2,by rw [Nat.zero_add];exact ⟨(r.cell _ (by omega)).trans (congrArg some a0),(r.cell _ (by omega)).trans (congrArg some a1),(r.cell _ (by omega)).trans (congrArg some a2),(r.cell _ (by omega)).trans (congrArg some a3),(r.cell _ (by omega)).trans (congrArg some a4),(r.cell _ (by omega)).trans (congrArg some a5),(r.cell _ (by omega)).trans (congrArg some a6),(r.cell _ (by omega)).trans (congrArg some a7)⟩,(h.hold i hi').isIn (fun h0=>hlo _ (Or.inr ⟨i,hi',h0,rfl⟩))⟩
theorem AksAt.isIn {w:World} {ad:Option Addr} {g n:Nat} {x:Nat→Ak} {A:Nat→Option Addr} {C hb:Nat→Nat} (h:AksAt w ad g n x A C hb) {lo hi:Nat} (hlo:∀ k,blkH g n (fun i=>(x i).n) hb k→lo≤k∧k<hi):AksIn w lo hi ad n x:=fun i hi'=>by
 obtain ⟨c,r,a⟩:=h.row (by omega)
 obtain ⟨a0,a1⟩:=a i hi'
 have:=hlo g (Or.inl ⟨by omega,rfl⟩)
 exact ⟨g,0,A i,C i,h.addr (by omega),this.1,this.2,by rw [Nat.zero_add];exact ⟨(r.cell _ (by omega)).trans (congrArg some a0),(r.cell _ (by omega)).trans (congrArg some a1)⟩,(h.hold i hi').in0 (fun h0=>hlo _ (Or.inr ⟨i,hi',h0,rfl⟩))⟩
theorem RcAt.isIn {w:World} {r:Rc} {p:RcP} (h:RcAt w r p) {lo hi:Nat} (hlo:∀ k,rbs p r k→lo≤k∧k<hi):RcIn w lo hi r p.A:=
 ⟨h.o0.isIn (fun h0=>hlo _ ⟨0,by omega,h0,rfl⟩),h.o1.isIn (fun h0=>hlo _ ⟨1,by omega,h0,rfl⟩),h.o2.isIn (fun k hk=>hlo _ ⟨2,by omega,hk⟩),h.o3.in0 (fun h0=>hlo _ ⟨3,by omega,h0,rfl⟩),h.o4.in0 (fun h0=>hlo _ ⟨4,by omega,h0,rfl⟩),h.o5.isIn (fun h0=>hlo _ ⟨5,by omega,h0,rfl⟩),h.o6.isIn (fun k hk=>hlo _ ⟨6,by omega,hk⟩)⟩
def Jc (c:Nat→Value) (i z:Nat) (d:Nat→Value) (j:Nat):Value:=if j<i*z then c j else if j<i*z+z then d (j-i*z) else c (j-z)
theorem SrcRow.take {w:World} {lo hi:Nat} {ad:Option Addr} {m k:Nat} {c:Nat→Value} (h:SrcRow w lo hi ad m c) (hk:k≤m):SrcRow w lo hi ad k c:=⟨fun j hj=>h.at_ j (by omega),fun j hj=>h.one j (by omega)⟩
theorem SrcRow.belowR {w w':World} {lo hi B:Nat} {ad:Option Addr} {m:Nat} {c:Nat→Value} (h:SrcRow w lo hi ad m c) (hb:Below B w w') (hB:hi≤B):SrcRow w' lo hi ad m c:=⟨fun j hj=>by
 obtain ⟨b,off,e1,e2,e3,e4⟩:=h.at_ j hj
 exact ⟨b,off,e1,e2,e3,(hb.cell (p:=⟨b,off+j,none⟩) (by show b<B;omega)).trans e4⟩,h.one⟩
theorem SrcRow.frR {w w':World} {lo hi:Nat} {ad:Option Addr} {m:Nat} {c:Nat→Value} {P:Nat→Prop} (h:SrcRow w lo hi ad m c) (hf:FrP P w w') (hp:∀ k,lo≤k→k<hi→¬P k) (hh:hi≤w.1.size):SrcRow w' lo hi ad m c:=⟨fun j hj=>by
 obtain ⟨b,off,e1,e2,e3,e4⟩:=h.at_ j hj
 exact ⟨b,off,e1,e2,e3,(hf.cell (p:=⟨b,off+j,none⟩) (by show b<_;omega) (hp b e2 e3)).trans e4⟩,h.one⟩
theorem EI {P:Program} (w:World) (t tn ty e:TypeId) (z bytes:Nat) (zv:Value) (ht:P.underlying t=some (.slice e)) (htn:P.underlying tn=some (.int .i64)) (hinf:(P.info? e).map (fun i=>(i.zero,i.size,i.bytes))=some (some zv,z,bytes)) (hz:0<z) (hzv:zv.cells.size=z)
  (lo hi:Nat) (ad:Option Addr) (i cap k:Nat) (c:Nat→Value) (hc:SrcRow w lo hi ad (i*z) c) (hk:0<k) (hg:cap<i+k) (h63:((i+k:Nat):Int)≤9223372036854775807) (hb:(i+k)*bytes≤140737488355328) :
  ∃ cap' w',(Builtin.append_ #[t,tn] ty #[.slice ad i cap,.int .i64 k]).run P w=.ok (.slice (some ⟨w.1.size,0,none⟩) (i+k) cap') w'∧i+k≤cap'∧(cap':Int)≤9223372036854775807∧Room w' w.1.size ((i+k)*z)∧(∀ j,j<i*z→w'.cell? ⟨w.1.size,j,none⟩=some (c j))∧Below w.1.size w w':=by
 obtain ⟨i0,hi0,hz0,hz1,hz2⟩:=info_parts hinf
 have hkb:k*bytes≤(i+k)*bytes:=Nat.mul_le_mul_right _ (by omega)
 have hrun:=Lib.run_append_grow_zeros (P:=P) w t tn ty e i0 zv .i64 .i64 ht htn hi0 hz0 ad i cap (Zg (i*z) c) (by rw [hz1];exact hc.drew.cells hz) k hk (by rw [hz1];exact hz) hg h63 (by rw [hz2];omega) (growslice_fits hg (by rw [hz2];exact hb))
 have hcg:=grownCap_ge w (i+k) cap e
 have hcm:=grownCap_le_maxLen w (i+k) cap e (by unfold maxLen;omega)
 obtain ⟨ROW,hROW⟩:∃ ROW:Array Value,ROW=(Zg (i*z) c).toArray ++ Builtin.zeroCells zv.cells k ++ Builtin.zeroCells zv.cells (grownCap w (i+k) cap e-(i+k)):=⟨_,rfl⟩
 rw [←hROW] at hrun
 have hs:(i+k)*z≤ROW.size:=by
  rw [hROW,Array.size_append,Array.size_append,size_zeroCells,size_zeroCells,hzv,List.size_toArray,Zj,Nat.add_mul]
  omega
 have hcell:∀ j,(w.drew.alloc (.cells ROW e)).cell? ⟨w.1.size,j,none⟩=ROW[j]?:=fun j=>World.cell?_alloc_new w.drew ROW e j
 refine ⟨_,_,hrun,hcg,by unfold maxLen at hcm;omega,⟨fun j hj=>?_,fun j=>?_,?_⟩,fun j hj=>?_,((br _ _).drew).alloc (lrf _) _⟩
 ·rw [hcell,Array.getElem?_eq_getElem (by omega)]
  exact ⟨_,rfl⟩
 ·have:=World.frozen?_alloc_mark w.drew ROW e 0 0 j
  rw [show w.drew.1.size=w.1.size from rfl] at this
  simpa using this
 ·rw [World.size_alloc];exact Nat.lt_succ_self _
 ·rw [hcell,hROW,Array.append_assoc,Array.getElem?_append_left (by simp [Zj,hj]),List.getElem?_toArray,List.getElem?_eq_getElem (by rw [Zj];exact hj),ZG]
theorem Kh {P:Program} (w:World) (t ty e:TypeId) (z:Nat) (ht:P.underlying t=some (.slice e)) (hsz:(P.info? e).map (·.size)=some z) (g o M dl dc:Nat) (hr:Room w g M) (lo hi b off m sc:Nat) (d:Nat→Value) (hd:SrcRow w lo hi (some ⟨b,off,none⟩) (m*z) d) (hm:m≤dl) (ho:o+m*z≤M) :
  (Builtin.copy_ #[t,t] ty #[.slice (some ⟨g,o,none⟩) dl dc,.slice (some ⟨b,off,none⟩) m sc]).run P w=.ok (goInt m) (w.setCells g o (Zg (m*z) d)):=by
 have hmin:Nat.min m dl=m:=Nat.min_eq_left hm
 have h:=Yd (P:=P) w t t ty e g o dl dc ⟨b,off,none⟩ m sc z (Zg (m*z) d) ht hsz (by rw [Zj,hmin]) (fun j v hv=>by
   obtain ⟨h1,rfl⟩:=ZP hv
   obtain ⟨b',off',e1,_,_,e4⟩:=hd.at_ j h1
   cases e1
   rw [show ((⟨b,off,none⟩:Addr).add j)=⟨b,off+j,none⟩ by simp [Addr.add]]
   exact e4) (fun j hj=>by
   rw [Zj] at hj
   obtain ⟨u,hu⟩:=hr.has (o+j) (by omega)
   rw [hu];rfl) (fun j _=>hr.free _) (fun u hu=>by
   obtain ⟨j,hj,rfl⟩:=List.mem_map.1 hu
   exact hd.one j (by simpa using hj))
 rw [hmin] at h
 exact h
theorem Nc {w:World} {g o M m:Nat} (hr:Room w g M) (d:Nat→Value) (ho:o+m≤M) {j:Nat} (hj:j<m):(w.setCells g o (Zg m d)).cell? ⟨g,o+j,none⟩=some (d j):=by
 have:=World.cell?_setCells_in g (Zg m d) o w (fun j hj=>by
  rw [Zj] at hj
  obtain ⟨u,hu⟩:=hr.has (o+j) (by omega)
  rw [hu];rfl) j (by rw [Zj];exact hj)
 rw [ZG] at this
 exact this
theorem KR {w:World} {g o m:Nat} (d:Nat→Value) {j:Nat} (hj:j<o∨o+m≤j):(w.setCells g o (Zg m d)).cell? ⟨g,j,none⟩=w.cell? ⟨g,j,none⟩:=
 World.cell?_setCells_out g _ o w ⟨g,j,none⟩ (fun _ _=>by rw [Zj];exact hj)
theorem Ue {w:World} {g o M m:Nat} (hr:Room w g M) (d:Nat→Value) (ho:o+m≤M):Room (w.setCells g o (Zg m d)) g M:=
 ⟨fun j hj=>by
  by_cases h:j<o∨o+m≤j
  ·rw [KR d h];exact hr.has j hj
  ·obtain ⟨q,rfl⟩:∃ q,j=o+q:=⟨j-o,by omega⟩
   exact ⟨_,Nc hr d ho (by omega)⟩,fun j=>by rw [World.frozen?_setCells];exact hr.free j,by rw [ZB];exact hr.lt⟩
theorem OL (c d:Nat→Value) (n z j:Nat) (hj:j<(n+1)*z):Jc c n z d j=XD c (n*z) d j:=by
 have e2:(n+1)*z=n*z+z:=by rw [Nat.add_mul,Nat.one_mul]
 unfold Jc XD
 by_cases h1:j<n*z
 ·rw [if_pos h1,if_pos h1]
 ·rw [if_neg h1,if_neg h1,if_pos (by omega)]
theorem KC {P:Program} {o:Oper} {a:Act} {w:World} {K:Act→World→Prop} {Q:Exit→Act→World→Prop} (s x:Operand) (t tx:TypeId)
  (ho:o.op=.call { callee:=.builtin .copy,args:=#[s,x],argTypes:=#[t,tx] }) (v xv v2:Value) (w2:World) (hs:a.eval s=v) (hx:a.eval x=xv) (hr:(Builtin.copy_ #[t,tx] o.type #[v,xv]).run P w=.ok v2 w2)
  (h:K (a.put o.dst v2) w2):o.wp P a w K Q:=by
 unfold Oper.wp execOp
 simp only [ho,resolve,invoke,builtin,Sem.run_bind,Sem.run_pure,Result.andThen_ok,List.map_toArray,List.map_cons,List.map_nil,hs,hx,hr]
 exact h
theorem Jd {P:Program} {ops:Array Oper} {rest:List Oper} {o:Oper} {a:Act} {w:World} {Q:Exit→Act→World→Prop} (hgd:o.guard=none) (s x:Operand) (t tx:TypeId)
  (ho:o.op=.call { callee:=.builtin .copy,args:=#[s,x],argTypes:=#[t,tx] }) (v xv v2:Value) (w2:World) (hs:a.eval s=v) (hx:a.eval x=xv) (hr:(Builtin.copy_ #[t,tx] o.type #[v,xv]).run P w=.ok v2 w2)
  (h:wpList P ops Q rest (a.put o.dst v2) w2):wpList P ops Q (o::rest) a w:=
 wpList_plain hgd fun K hK=>by
  unfold Oper.wp execOp
  simp only [ho,resolve,invoke,builtin,Sem.run_bind,Sem.run_pure,Result.andThen_ok,List.map_toArray,List.map_cons,List.map_nil,hs,hx,hr]
  exact hK _ _ h
theorem sz3z:(Tryz.prog.info? 3).map (·.size)=some 1:=by kernel_rfl
theorem apSb2 {P:Prop} (h:P:=by
  go_ret
  exact ⟨_,_,rfl,lrf _,⟨HR.out.lt,HR.out.free,fun j hj=>by rw [OL _ _ _ _ _ hj];exact HR.out.cell j hj⟩,HB.out⟩):P:=h
set_option maxRecDepth 100000 in
theorem Iz (n:Nat) (hn:n≤1000) (c d:Nat→Value) (ad:Option Addr) (vb:Nat) (w:World) (lo hi:Nat) (hc:SrcRow w lo hi ad (n*1) c) (hd:SrcRow w vb (vb+1) (some ⟨vb,0,none⟩) (1*1) d) :
  Calls Tryz.prog 172 #[.slice ad n n,.int .i64 n,.slice (some ⟨vb,0,none⟩) 1 1] w fun e w'=>∃ g cap,e=.returned (.slice (some ⟨g,0,none⟩) (n+1) cap)∧w.1.size≤g∧RowF w' g ((n+1)*1) (Jc c n 1 d)∧Below w.1.size w w':=by
 have HC:=hid hc
 have HD:=hid hd
 clear hc hd
 cases ad with
 | none=>
  have h0:n=0:=by
   rcases Nat.eq_zero_or_pos n with h0|h0
   ·exact h0
   ·obtain ⟨b,off,e,_⟩:=HC.out.at_ 0 (by omega)
    cases e
  subst h0
  go_enter Tryz.func172,Tryz.ntmps172
  go_wp2_with ((with_reducible show wpList _ _ _ (⟨some 25,_,_,_,_,_⟩::_) _ _);go_must (obtain ⟨cap',w',hrun,hrow,hb',_⟩:=Yp (P:=Tryz.prog) w 27 27 3 1 8 (.int .i64 0) Tryz.underlying27 Tryz.info3 (by omega) lo hi vb (vb+1) none 0 0 c HC.out (some ⟨vb,0,none⟩) 1 1 d HD.out (by omega) (by omega) (by omega);refine Zq rfl _ _ 27 27 rfl _ _ _ _ rfl rfl hrun ?_;have HR:=hid hrow;have HB:=hid hb';clear hrun hrow hb'))
  exact apSb2
 | some a=>
  go_enter Tryz.func172,Tryz.ntmps172
  go_wp2_with ((with_reducible show wpList _ _ _ (⟨some 25,_,_,_,_,_⟩::_) _ _);go_must (obtain ⟨cap',w',hrun,hrow,hb',_⟩:=Yp (P:=Tryz.prog) w 27 27 3 1 8 (.int .i64 0) Tryz.underlying27 Tryz.info3 (by omega) lo hi vb (vb+1) (some a) n n c HC.out (some ⟨vb,0,none⟩) 1 1 d HD.out (by omega) (by omega) (by omega);refine Zq rfl _ _ 27 27 rfl _ _ _ _ rfl rfl hrun ?_;have HR:=hid hrow;have HB:=hid hb';clear hrun hrow hb'))
  exact apSb2
theorem Ij:(Tryz.prog.info? 108).map (·.size)=some 2:=by kernel_rfl
theorem OH {X:World} {g i n z:Nat} {c d:Nat→Value} (hi:i≤n) (hr:Room X g ((n+1)*z)) (hc:∀ j,j<(i+1)*z→X.cell? ⟨g,j,none⟩=some (Jc c i z d j)) :
  RowF (X.setCells g ((i+1)*z) (Zg ((n-i)*z) (fun j=>c (i*z+j)))) g ((n+1)*z) (Jc c i z d):=by
 have e1:(i+1)*z=i*z+z:=by rw [Nat.add_mul,Nat.one_mul]
 have e2:(n+1)*z=n*z+z:=by rw [Nat.add_mul,Nat.one_mul]
 have e3:(n-i)*z+i*z=n*z:=by rw [←Nat.add_mul];congr 1;omega
 have r2:=Ue hr (o:=(i+1)*z) (m:=(n-i)*z) (fun j=>c (i*z+j)) (by omega)
 refine ⟨r2.lt,r2.free,fun j hj=>?_⟩
 by_cases h1:j<(i+1)*z
 ·rw [KR _ (Or.inl h1)]
  exact hc j h1
 ·obtain ⟨q,rfl⟩:∃ q,j=(i+1)*z+q:=⟨j-(i+1)*z,by omega⟩
  rw [Nc hr _ (by omega) (by omega)]
  unfold Jc
  rw [if_neg (by omega),if_neg (by omega)]
  exact congrArg (fun k=>some (c k)) (by omega)
theorem SrcRow.drop {w:World} {lo hi b off m k:Nat} {c:Nat→Value} (h:SrcRow w lo hi (some ⟨b,off,none⟩) m c) (hk:k≤m):SrcRow w lo hi (some ⟨b,off+k,none⟩) (m-k) (fun j=>c (k+j)):=⟨fun j hj=>by
 obtain ⟨b',off',e1,e2,e3,e4⟩:=h.at_ (k+j) (by omega)
 cases e1
 exact ⟨b,off+k,rfl,e2,e3,by rw [Nat.add_assoc];exact e4⟩,fun j hj=>h.one (k+j) (by omega)⟩
def Pp (b off g n u cap:Nat) (i:Nat) (v:Value) (_X:World):Prop:=
 match i with
 | 0=>v=.slice (some ⟨g,0,none⟩) (n+1) cap
 | 1=>v=.int .i64 u
 | 2=>v=.int .i64 1
 | 3=>v=.int .i64 ((u:Int)+1)
 | 4=>v=.slice (some ⟨g,(u+1)*1,none⟩) (n-u) (cap-(u+1))
 | 5=>v=.slice (some ⟨b,off,none⟩) n n
 | 6=>v=.int .i64 u
 | 7=>v=.slice (some ⟨b,off+u*1,none⟩) (n-u) (n-u)
 | _=>True
theorem apSb0 {P:Prop} (h:P:=by
  intro i hi t X K hb hg hK
  rcases (show i=0∨i=1∨i=2∨i=3∨i=4∨i=5∨i=6∨i=7 by omega) with rfl|rfl|rfl|rfl|rfl|rfl|rfl|rfl
  ·exact sg
  ·exact sg
  ·exact sg
  ·have e1:t 1=.int .i64 u:=hg 1 (Wt rfl)
   have e2:t 2=.int .i64 1:=hg 2 (Wt rfl)
   have h:=hK _ X rfl (br _ _)
   refine Zi rfl rfl ?_
   clear hK hg
   have hw:IntKind.i64.wrap ((u:Int)+1)=(u:Int)+1:=by rw [IntKind.wrap_i64];omega
   simp only [e1,e2]
   go_simp
   simpa [updT,e1,e2,hw] using h
  ·have e0:t 0=.slice (some ⟨g,0,none⟩) (n+1) cap:=hg 0 (Wt rfl)
   have e3:t 3=.int .i64 ((u:Int)+1):=hg 3 (Wt rfl)
   have q1:¬(cap=u+1):=by omega
   have q2:((u:Int)+1).toNat=u+1:=by omega
   have q3:n+1-(u+1)=n-u:=by omega
   have h:=hK _ X rfl (br _ _)
   refine Zi rfl rfl ?_
   clear hK hg
   simp only [e0,e3]
   go_simp
   rw [if_pos ⟨by omega,by omega⟩,Oper.upon_value]
   go_simp
   simpa [updT,e0,e3] using h
  ·exact sg
  ·exact sg
  ·have e5:t 5=.slice (some ⟨b,off,none⟩) n n:=hg 5 (Wt rfl)
   have e6:t 6=.int .i64 u:=hg 6 (Wt rfl)
   have q1:¬(n=u):=by omega
   have h:=hK _ X rfl (br _ _)
   refine Zi rfl rfl ?_
   clear hK hg
   simp only [e5,e6]
   go_simp
   rw [if_pos (by omega),Oper.upon_value]
   go_simp
   simpa [updT,e5,e6] using h):P:=h
theorem apSb8 {P:Prop} (h:P:=by
  exact hK _ _ ⟨t,_,rfl,OH (by omega) rX (fun j hj=>(hb.cell (p:=⟨g,j,none⟩) hgl).trans (hc j hj)),(FrP.of_below hb).trans (FrP.of_fr (Zx g _ _ X) (fun k h1 h2=>by omega))⟩):P:=h
set_option maxRecDepth 100000 in
theorem EB (p2 p3 p4 p5 p6 p8 ze zc za zd zi zj zg zh zn zm zo zp zq yb yf ye z9 yd z8 z0 zu zy zt yg yi yj yh yk ym yo yr yt xo jo jm jp jw ju yp yq yv yw xx xy xc yu yx xb xd xg xk xe xh js x9 jk jj ji jl xw yz xi xm xa xf xj xl yy xn xp xq xr xu xt jt jr jq:Value) (w0 w1 w2 w3 w4 w5 w6 w7:Value) (b off g n u cap:Nat) (W:World) (lo hi:Nat) (c d:Nat→Value) (hin:u<n) (hn:n≤1000) (hcap:n+1≤cap) (_hcm:(cap:Int)≤9223372036854775807) (hhi:hi≤W.1.size) (hr:Room W g ((n+1)*1)) (_hgh:hi≤g) (hc:∀ j,j<(u+1)*1→W.cell? ⟨g,j,none⟩=some (Jc c u 1 d j)) (hs:SrcRow W lo hi (some ⟨b,off,none⟩) (n*1) c) (Q:Exit→Act→World→Prop) (hQ:∀ (t:Nat→Value) (v3:Value) X,RowF X g ((n+1)*1) (Jc c u 1 d)∧FrP (fun q=>q=g) W X→Q .normal ⟨#[.slice (some ⟨b,off,none⟩) n n,.int .i64 u,p2,p3,p4,p5,p6,.int .i64 1,p8,.slice (some ⟨g,0,none⟩) (n+1) cap,ze,zc,za,zd,zi,zj,zg,zh,zn,zm,zo,zp,zq,yb,yf,ye,z9,yd,z8,z0,zu,zy,zt,yg,yi,yj,yh,yk,ym,yo,yr,yt,xo,jo,jm,jp,t 0,t 1,t 2,t 3,t 4,t 5,t 6,t 7,v3,ju,yp,yq,yv,yw,xx,xy,xc,yu,yx,xb,xd,xg,xk,xe,xh,js,x9,jk,jj,ji,jl,xw,yz,xi,xm,xa,xf,xj,xl,yy,xn,xp,xq,xr,xu,xt,jt,jr,jq],[]⟩ X) :
  Code.wp Tryz.prog (Code.region 11 #[⟨some 46,.move (.tmp 9),27,Gu,#[],none⟩,⟨some 47,.move (.tmp 1),3,Gu,#[],none⟩,⟨some 48,.move (.tmp 7),3,Gu,#[],none⟩,⟨some 49,.binOp .add 3 (.tmp 47) (.tmp 48) 3,3,Gu,#[⟨1,.data⟩,⟨2,.data⟩],none⟩,⟨some 50,.slice 27 (.tmp 46) (some (.tmp 49)) none none,27,Gu,#[⟨0,.data⟩,⟨3,.data⟩],none⟩,⟨some 51,.move (.tmp 0),27,Gu,#[],none⟩,⟨some 52,.move (.tmp 1),3,Gu,#[],none⟩,⟨some 53,.slice 27 (.tmp 51) (some (.tmp 52)) none none,27,Gu,#[⟨5,.data⟩,⟨6,.data⟩],none⟩,⟨some 54,.call ⟨.builtin .copy,#[.tmp 50,.tmp 53],#[27,27]⟩,3,Gu,#[⟨4,.data⟩,⟨7,.data⟩],none⟩] true) Q ⟨#[.slice (some ⟨b,off,none⟩) n n,.int .i64 u,p2,p3,p4,p5,p6,.int .i64 1,p8,.slice (some ⟨g,0,none⟩) (n+1) cap,ze,zc,za,zd,zi,zj,zg,zh,zn,zm,zo,zp,zq,yb,yf,ye,z9,yd,z8,z0,zu,zy,zt,yg,yi,yj,yh,yk,ym,yo,yr,yt,xo,jo,jm,jp,w0,w1,w2,w3,w4,w5,w6,w7,jw,ju,yp,yq,yv,yw,xx,xy,xc,yu,yx,xb,xd,xg,xk,xe,xh,js,x9,jk,jj,ji,jl,xw,yz,xi,xm,xa,xf,xj,xl,yy,xn,xp,xq,xr,xu,xt,jt,jr,jq],[]⟩ W:=by
 refine ZL (by kernel_rfl) 8 (fun t:Nat→Value=>#[.slice (some ⟨b,off,none⟩) n n,.int .i64 u,p2,p3,p4,p5,p6,.int .i64 1,p8,.slice (some ⟨g,0,none⟩) (n+1) cap,ze,zc,za,zd,zi,zj,zg,zh,zn,zm,zo,zp,zq,yb,yf,ye,z9,yd,z8,z0,zu,zy,zt,yg,yi,yj,yh,yk,ym,yo,yr,yt,xo,jo,jm,jp,t 0,t 1,t 2,t 3,t 4,t 5,t 6,t 7,jw,ju,yp,yq,yv,yw,xx,xy,xc,yu,yx,xb,xd,xg,xk,xe,xh,js,x9,jk,jj,ji,jl,xw,yz,xi,xm,xa,xf,xj,xl,yy,xn,xp,xq,xr,xu,xt,jt,jr,jq]) (fun i=>match i with|0=>w0|1=>w1|2=>w2|3=>w3|4=>w4|5=>w5|6=>w6|_=>w7) (Pp b off g n u cap) (fun a X=>∃ (t:Nat→Value) (v3:Value),a=⟨#[.slice (some ⟨b,off,none⟩) n n,.int .i64 u,p2,p3,p4,p5,p6,.int .i64 1,p8,.slice (some ⟨g,0,none⟩) (n+1) cap,ze,zc,za,zd,zi,zj,zg,zh,zn,zm,zo,zp,zq,yb,yf,ye,z9,yd,z8,z0,zu,zy,zt,yg,yi,yj,yh,yk,ym,yo,yr,yt,xo,jo,jm,jp,t 0,t 1,t 2,t 3,t 4,t 5,t 6,t 7,v3,ju,yp,yq,yv,yw,xx,xy,xc,yu,yx,xb,xd,xg,xk,xe,xh,js,x9,jk,jj,ji,jl,xw,yz,xi,xm,xa,xf,xj,xl,yy,xn,xp,xq,xr,xu,xt,jt,jr,jq],[]⟩∧RowF X g ((n+1)*1) (Jc c u 1 d)∧FrP (fun q=>q=g) W X) (by kernel_rfl) (by kernel_rfl) (by kernel_rfl) ?_ rfl ?_ ?_ ?_
 ·exact fun _ _ _ _ _ h _=>h
 ·exact apSb0
 ·intro t X K hb hg hK
  have e4:t 4=.slice (some ⟨g,(u+1)*1,none⟩) (n-u) (cap-(u+1)):=hg 4 (by omega)
  have e7:t 7=.slice (some ⟨b,off+u*1,none⟩) (n-u) (n-u):=hg 7 (by omega)
  have hm:(n-u)*1=n*1-u*1:=Nat.sub_mul _ _ _
  have src:SrcRow X lo hi (some ⟨b,off+u*1,none⟩) ((n-u)*1) (fun j=>c (u*1+j)):=by rw [hm];exact (hs.belowR hb hhi).drop (by omega)
  have hgl:=hr.lt
  have rX:Room X g ((n+1)*1):=hr.below hb hgl
  have hrun:=Kh (P:=Tryz.prog) X 27 3 3 1 Tryz.underlying27 sz3z g ((u+1)*1) ((n+1)*1) (n-u) (cap-(u+1)) rX lo hi b (off+u*1) (n-u) (n-u) _ src (lrf _) (by omega)
  rw [←e4,←e7] at hrun
  refine Zi rfl rfl ?_
  refine KC _ _ 27 27 rfl _ _ _ _ rfl rfl hrun ?_
  exact apSb8
 ·rintro a X ⟨t,v3,rfl,hp⟩
  exact hQ t v3 X hp
theorem apSb9 {P:Prop} (h:P:=by
  rintro t v3 X ⟨hrow,hfr⟩
  have HROW:=hid hrow
  have HFR:=hid (HB2.out.trans (hfr.below (fun k hk h=>by omega) (by omega)))
  clear hrow hfr
  go_wp2
  go_ret
  exact ⟨_,_,rfl,lrf _,HROW.out,HFR.out⟩):P:=h
set_option maxRecDepth 100000 in
theorem Iy (n i:Nat) (hi:i<n) (hn:n≤1000) (c d:Nat→Value) (b off vb:Nat) (w:World) (lo hb:Nat) (hhi:hb≤w.1.size) (hv:vb<w.1.size) (hc:SrcRow w lo hb (some ⟨b,off,none⟩) (n*1) c) (hd:SrcRow w vb (vb+1) (some ⟨vb,0,none⟩) (1*1) d) :
  Calls Tryz.prog 172 #[.slice (some ⟨b,off,none⟩) n n,.int .i64 i,.slice (some ⟨vb,0,none⟩) 1 1] w fun e w'=>∃ g cap,e=.returned (.slice (some ⟨g,0,none⟩) (n+1) cap)∧w.1.size≤g∧RowF w' g ((n+1)*1) (Jc c i 1 d)∧Below w.1.size w w':=by
 have HC:=hid hc
 have HD:=hid hd
 clear hc hd
 have hik:i+(n+1-i)=n+1:=by omega
 obtain ⟨cap,w1,hrun,hcap,hcm,hroom,hcell,hb1⟩:=EI (P:=Tryz.prog) w 27 3 27 3 1 8 (.int .i64 0) Tryz.underlying27 Tryz.underlying3 Tryz.info3 (by omega) rfl lo hb (some ⟨b,off,none⟩) i n (n+1-i) c (HC.out.take (by omega)) (by omega) (by omega) (by omega) (by omega)
 rw [hik] at hrun hcap hroom
 rw [show ((n+1-i:Nat):Int)=(n:Int)+1-i by omega] at hrun
 have HRUN:=hid hrun
 have z1:=hb1.size
 have hgl:=hroom.lt
 have src1:=HD.out.belowR hb1 (by omega)
 have hcp:=Kh (P:=Tryz.prog) w1 27 3 3 1 Tryz.underlying27 sz3z w.1.size (i*1) ((n+1)*1) (n+1-i) (cap-i) hroom vb (vb+1) vb 0 1 1 d src1 (by omega) (by omega)
 have HCP:=hid hcp
 have R2:Room (w1.setCells w.1.size (i*1) (Zg (1*1) d)) w.1.size ((n+1)*1):=Ue hroom d (by omega)
 have C2:∀ j,j<(i+1)*1→(w1.setCells w.1.size (i*1) (Zg (1*1) d)).cell? ⟨w.1.size,j,none⟩=some (Jc c i 1 d j):=fun j hj=>by
  unfold Jc
  by_cases h1:j<i*1
  ·rw [if_pos h1,KR _ (Or.inl h1)]
   exact hcell j h1
  ·rw [if_neg h1,if_pos (by omega)]
   obtain ⟨q,rfl⟩:∃ q,j=i*1+q:=⟨j-i*1,by omega⟩
   rw [Nc hroom d (by omega) (by omega),Nat.add_sub_cancel_left]
 have F2:FrP (fun q=>q=w.1.size) w1 (w1.setCells w.1.size (i*1) (Zg (1*1) d)):=FrP.of_fr (Zx w.1.size _ _ w1) (fun k h1 h2=>by omega)
 have S2:SrcRow (w1.setCells w.1.size (i*1) (Zg (1*1) d)) lo hb (some ⟨b,off,none⟩) (n*1) c:=(HC.out.belowR hb1 hhi).frR F2 (fun k _ h2=>by omega) (by omega)
 have HC2:=hid C2
 have HS2:=hid S2
 have HR2:=hid R2
 have B2:Below w.1.size w (w1.setCells w.1.size (i*1) (Zg (1*1) d)):=hb1.trans (F2.below (fun k hk h=>by omega) (by omega))
 have HB2:=hid B2
 obtain ⟨W2,hW2⟩:∃ W2,w1.setCells w.1.size (i*1) (Zg (1*1) d)=W2:=⟨_,rfl⟩
 rw [hW2] at HCP HC2 HS2 HR2 HB2
 have zz:=HB2.out.size
 clear hrun hcp R2 C2 S2 B2 F2 hcell src1 HC HD hroom hW2
 have q1:¬(cap=i):=by omega
 have q2:¬(n=i):=by omega
 have q3:¬(i=n):=by omega
 go_enter Tryz.func172,Tryz.ntmps172
 go_wp2_with (first
  | ((with_reducible show wpList _ _ _ (⟨some 40,_,_,_,_,_⟩::_) _ _);go_must (refine Zq rfl _ _ 27 3 rfl _ _ _ _ rfl rfl HRUN.out ?_))
  | ((with_reducible show wpList _ _ _ (⟨some 45,_,_,_,_,_⟩::_) _ _);go_must (refine Jd rfl _ _ 27 27 rfl _ _ _ _ (by first|rfl|(simp only [Nat.mul_one];rfl)) rfl HCP.out ?_)))
 refine EB _ _ _ _ _ _ _ _ _ _ _ _ _ _ _ _ _ _ _ _ _ _ _ _ _ _ _ _ _ _ _ _ _ _ _ _ _ _ _ _ _ _ _ _ _ _ _ _ _ _ _ _ _ _ _ _ _ _ _ _ _ _ _ _ _ _ _ _ _ _ _ _ _ _ _ _ _ _ _ _ _ _ _ _ _ _ _ _ _ _ _ b off w.1.size n i cap W2 lo hb c d hi hn hcap hcm (by omega) HR2.out hhi HC2.out HS2.out _ ?_
 exact apSb9
def rk (s:Nat→Int) (x:Int):Nat→Nat
 | 0=>0
 | n+1=>if rk s x n=n∧s n<x then n+1 else rk s x n
theorem KG (s:Nat→Int) (x:Int):∀ n,rk s x n≤n
 | 0=>lrf _
 | n+1=>by
  unfold rk
  have:=KG s x n
  split<;>omega
theorem PC (s:Nat→Int) (x:Int):∀ n j,j<rk s x n→s j<x
 | 0,j,h=>absurd h (nlz _)
 | n+1,j,h=>by
  unfold rk at h
  split at h
  ·rename_i h1
   rcases Nat.lt_or_ge j n with h2|h2
   ·exact PC s x n j (by omega)
   ·obtain rfl:j=n:=by omega
    exact h1.2
  ·exact PC s x n j h
theorem Fa (s:Nat→Int) (x:Int):∀ n,rk s x n<n→x≤s (rk s x n)
 | 0,h=>absurd h (nlz _)
 | n+1,h=>by
  unfold rk at h ⊢
  split at h
  ·omega
  ·rename_i h1
   rw [if_neg h1]
   have:=KG s x n
   rcases Nat.lt_or_ge (rk s x n) n with h2|h2
   ·exact Fa s x n h2
   ·have h3:rk s x n=n:=by omega
    rw [h3]
    rw [h3] at h1
    rcases Int.lt_or_le (s n) x with h4|h4
    ·exact absurd ⟨rfl,h4⟩ h1
    ·exact h4
theorem Ks {s:Nat→Int} {x:Int} {n k:Nat} (hk:k≤n) (h1:∀ j,j<k→s j<x) (h2:k<n→x≤s k):k=rk s x n:=by
 have a:=KG s x n
 rcases Nat.lt_trichotomy k (rk s x n) with h|h|h
 ·have:=PC s x n k h
  have:=h2 (by omega)
  omega
 ·exact h
 ·have:=h1 _ h
  have:=Fa s x n (by omega)
  omega
def U8 (s:Nat→Int) (k:Nat) (x:Int) (j:Nat):Int:=if j<k then s j else if j=k then x else s (j-1)
def XN (n:Nat) (s:Nat→Int) (x:Int):Bool:=decide (rk s x n<n)&&decide (s (rk s x n)=x)
def Zy (n:Nat) (s:Nat→Int) (x:Int):Nat:=if XN n s x then n else n+1
def ZJ (n:Nat) (s:Nat→Int) (x:Int):Nat→Int:=if XN n s x then s else U8 s (rk s x n) x
theorem IX (n:Nat) (s:Nat→Int) (x:Int):Zy n s x≤n+1:=by
 unfold Zy
 split<;>omega
def inC (s:Nat→Int) (j:Nat):Value:=.int .i64 (s j)
theorem Kw (s:Nat→Int) (k:Nat) (x:Int) (j:Nat):Jc (inC s) k 1 (fun _=>.int .i64 x) j=.int .i64 (U8 s k x j):=by
 unfold Jc U8 inC
 rw [Nat.mul_one]
 by_cases h1:j<k
 ·rw [if_pos h1,if_pos h1]
 ·rw [if_neg h1,if_neg h1]
  by_cases h2:j=k
  ·rw [if_pos (by omega),if_pos h2]
  ·rw [if_neg (by omega),if_neg h2]
theorem IntsOwn.srcR {w:World} {lo hi:Nat} {ad:Option Addr} {n:Nat} {s:Nat→Int} (h:IntsOwn w lo hi ad n s):SrcRow w lo hi ad (n*1) (inC s):=⟨fun j hj=>by
 obtain ⟨b,off,e1,e2,e3,e4,_⟩:=h j (by omega)
 exact ⟨b,off,e1,e2,e3,e4⟩,fun _ _=>rfl⟩
theorem RowF.intsOf {w:World} {g n:Nat} {c:Nat→Value} {s:Nat→Int} (h:RowF w g (n*1) c) (hs:∀ j,j<n→c j=.int .i64 (s j)):IntsOwn w g (g+1) (some ⟨g,0,none⟩) n s:=fun i hi=>
 ⟨g,0,rfl,lrf _,Nat.lt_succ_self _,by rw [Nat.zero_add,h.cell i (by omega),hs i hi],h.free _⟩
set_option maxRecDepth 100000 in
theorem Fw (x y:Int) (w:World):Calls Tryz.prog 178 #[.int .i64 x,.int .i64 y] w fun e w'=>e=.returned (.bool (decide (x<y)))∧w'=w:=by
 have c:∀ (a:Int) (X:World),Calls Tryz.prog 184 #[.int .i64 a] X fun e w'=>e=.returned (.bool false)∧w'=X:=fun a X=>by
  go_enter Tryz.func184,Tryz.ntmps184
  go_wp2
  go_ret
  exact ⟨rfl,rfl⟩
 cases h:decide (x<y) with
 | false=>
  have h':¬(x<y):=of_decide_eq_false h
  go_enter Tryz.func178,Tryz.ntmps178
  go_wp2_with (go_at_call 184;go_must (refine (c _ _).mono ?_;rintro e w1 ⟨rfl,rfl⟩))
  go_ret
  exact ⟨rfl,rfl⟩
 | true=>
  have h':x<y:=of_decide_eq_true h
  go_enter Tryz.func178,Tryz.ntmps178
  go_wp2_with (go_at_call 184;go_must (refine (c _ _).mono ?_;rintro e w1 ⟨rfl,rfl⟩))
  go_ret
  exact ⟨rfl,rfl⟩
set_option maxRecDepth 100000 in
theorem PI (a:Int) (w:World):Calls Tryz.prog 179 #[.int .i64 a] w fun e w'=>e=.returned (.bool false)∧w'=w:=by
 go_enter Tryz.func179,Tryz.ntmps179
 go_wp2
 go_ret
 exact ⟨rfl,rfl⟩
set_option maxRecDepth 100000 in
theorem OU (n:Nat) (s:Nat→Int) (ad:Option Addr) (cap:Nat) (x:Int) (w:World) (lo hi:Nat) (hhi:hi≤w.1.size) (hl:(n:Int)≤1099511627776) (hasc:∀ i j,i<j→j<n→s i<s j) (hc:IntsIn w lo hi ad n s) :
  Calls Tryz.prog 171 #[.slice ad n cap,.int .i64 x] w fun e w'=>e=.returned (.tuple #[.int .i64 (rk s x n:Nat),.bool (XN n s x)])∧Below w.1.size w w':=by
 have HAS:=hid hasc
 have HC:=hid hc
 clear hasc hc
 go_enter Tryz.func171,Tryz.ntmps171
 go_wp2
 go_loopw [7,8] (fun i j wr=>∃ p q:Nat,p≤q∧q≤n∧i=.int .i64 p∧j=.int .i64 q∧Below w.1.size w wr∧(∀ j,j<p→s j<x)∧(∀ j,q≤j→j<n→x≤s j)) (fun i j _=>(intOf j-intOf i).toNat)
 case atStart=>exact ⟨0,n,zle _,lrf _,rfl,rfl,br _ _,fun j hj=>absurd hj (nlz _),fun j h1 h2=>absurd h2 (by omega)⟩
 case round=>
  obtain ⟨p,q,hpq,hqn,rfl,rfl,hb,hlo',hhi'⟩:=hrel
  have H1:=hid hlo'
  have H2:=hid hhi'
  clear hlo' hhi'
  by_cases hp:p<q
  ·obtain ⟨b,off,e,hlo0,hbh0,hcm⟩:=HC.out ((p+q) / 2) (by omega)
   have d0:=(hb.cell (p:=⟨b,off+(p+q) / 2,none⟩) (by show b<_;omega)).trans hcm
   rw [e]
   clear hcm e
   have hLS:=hid (Fw (s ((p+q) / 2)) x)
   by_cases hlt:s ((p+q) / 2)<x
   ·have HN:=hid (show ∀ j,j<(p+q) / 2+1→s j<x from fun j hj=>by
     rcases Nat.lt_or_ge j ((p+q) / 2) with h3|h3
     ·have:=HAS.out j _ h3 (by omega);omega
     ·obtain rfl:j=(p+q) / 2:=by omega
      exact hlt)
    rw [decide_eq_true hlt] at hLS
    clear hlt
    go_wp2_with (go_at_call 178;go_must (refine (hLS.out _).mono ?_;rintro e w1 ⟨rfl,rfl⟩))
    go_roundw
    case rel=>exact ⟨(p+q) / 2+1,q,by omega,hqn,by go_num,by first|rfl|trivial,hb,HN.out,H2.out⟩
    case measure=>simp [intOf];omega
   ·have HN:=hid (show ∀ j,(p+q) / 2≤j→j<n→x≤s j from fun j h1 h2=>by
     rcases Nat.lt_or_ge ((p+q) / 2) j with h3|h3
     ·have:=HAS.out _ j h3 h2;omega
     ·obtain rfl:j=(p+q) / 2:=by omega
      omega)
    rw [decide_eq_false hlt] at hLS
    clear hlt
    go_wp2_with (go_at_call 178;go_must (refine (hLS.out _).mono ?_;rintro e w1 ⟨rfl,rfl⟩))
    go_roundw
    case rel=>exact ⟨p,(p+q) / 2,by omega,by omega,by first|rfl|trivial,by go_num,hb,H1.out,HN.out⟩
    case measure=>simp [intOf];omega
  ·have hpe:p=q:=by omega
   subst hpe
   have HK:=hid (Ks (s:=s) (x:=x) hqn H1.out (fun h=>H2.out p (lrf _) h))
   by_cases hpn:p<n
   ·obtain ⟨b,off,e,hlo0,hbh0,hcm⟩:=HC.out p hpn
    have d0:=(hb.cell (p:=⟨b,off+p,none⟩) (by show b<_;omega)).trans hcm
    rw [e]
    clear hcm e
    by_cases he:s p=x
    ·have HE:=hid (show XN n s x=true by unfold XN;rw [←HK.out];simp [hpn,he])
     rw [he] at d0
     clear he
     go_wp2_with (go_at_call 179;go_must (refine (PI _ _).mono ?_;rintro e w1 ⟨rfl,rfl⟩))
     refine bodyPost_ret (v:=.tuple #[.int .i64 p,.bool true]) (by simp [results,Tryz.results171,go_sem]) rfl ⟨by rw [HE.out,←HK.out],hb⟩
    ·have HE:=hid (show XN n s x=false by unfold XN;rw [←HK.out];simp [he])
     have hz:(s p==x)=false:=by simp;exact he
     generalize s p=dd at *
     clear he
     go_wp2_with (go_at_call 179;go_must (refine (PI _ _).mono ?_;rintro e w1 ⟨rfl,rfl⟩))
     refine bodyPost_ret (v:=.tuple #[.int .i64 p,.bool false]) (by simp [results,Tryz.results171,go_sem]) rfl ⟨by rw [HE.out,←HK.out],hb⟩
   ·have HE:=hid (show XN n s x=false by unfold XN;rw [←HK.out];simp [hpn])
    go_wp2
    refine bodyPost_ret (v:=.tuple #[.int .i64 p,.bool false]) (by simp [results,Tryz.results171,go_sem]) rfl ⟨by rw [HE.out,←HK.out],hb⟩
def PA (w:World) (g n:Nat) (s:Nat→Int) (x:Int) (e:Ending) (w':World):Prop:=
 ∃ ad' cap' g',e=.returned (.slice ad' (Zy n s x) cap')∧IntsOwn w' g' (g'+1) ad' (Zy n s x) (ZJ n s x)∧g'<w'.1.size∧((g'=g∧0<n)∨w.1.size≤g')∧Below w.1.size w w'
theorem IntsOwn.growB {w w':World} {lo hi B:Nat} {ad:Option Addr} {n:Nat} {s:Nat→Int} (h:IntsOwn w lo hi ad n s) (hb:Below B w w') (hB:0<n→hi≤B):IntsOwn w' lo hi ad n s:=fun i hi'=>by
 obtain ⟨b,off,e1,e2,e3,e4,e5⟩:=h i hi'
 have:=hB (by omega)
 exact ⟨b,off,e1,e2,e3,(hb.cell (p:=⟨b,off+i,none⟩) (by show b<B;omega)).trans e4,(hb.frozen (p:=⟨b,off+i,none⟩) (by show b<B;omega)).trans e5⟩
set_option maxRecDepth 100000 in
theorem KH (n:Nat) (s:Nat→Int) (ad:Option Addr) (g:Nat) (x:Int) (w:World) (hn:n≤999) (hasc:∀ i j,i<j→j<n→s i<s j) (hg:0<n→g<w.1.size) (ho:IntsOwn w g (g+1) ad n s) :
  Calls Tryz.prog 162 #[.slice ad n n,.int .i64 x] w fun e w'=>PA w g n s x e w':=by
 have HO:=hid ho
 have hle:=KG s x n
 have HB:=hid (fun X (hb:Below w.1.size w X)=>OU n s ad n x X (if n=0 then 0 else g) (if n=0 then 0 else g+1) (by have:=hb.size;split<;>omega) (by omega) hasc (fun i hi=>by
  rw [if_neg (by omega),if_neg (by omega)]
  exact (HO.out.growB hb (fun h=>hg h)).isIn i hi))
 clear ho hasc
 cases hh:XN n s x with
 | true=>
  rw [hh] at HB
  have hpos:0<n:=by
   simp only [XN,Bool.and_eq_true,decide_eq_true_eq] at hh
   omega
  have hN:Zy n s x=n:=by unfold Zy;rw [hh];rfl
  have hF:ZJ n s x=s:=by unfold ZJ;rw [hh];rfl
  have HNF:=hid (And.intro hN hF)
  clear hN hF
  go_enter Tryz.func162,Tryz.ntmps162
  go_wp2_with (go_at_call 171;go_must (refine (HB.out _ (br _ _)).mono ?_;rintro e w1 ⟨rfl,hb1⟩))
  go_ret
  unfold PA
  rw [HNF.out.1,HNF.out.2]
  have z1:=hb1.size
  have:=hg hpos
  exact ⟨_,_,g,rfl,HO.out.growB hb1 hg,by omega,Or.inl ⟨rfl,hpos⟩,hb1⟩
 | false=>
  rw [hh] at HB
  have hN:Zy n s x=n+1:=by unfold Zy;rw [hh];rfl
  have hF:ZJ n s x=U8 s (rk s x n) x:=by unfold ZJ;rw [hh];rfl
  have HNF:=hid (And.intro hN hF)
  obtain ⟨k,hk⟩:∃ k,rk s x n=k:=⟨_,rfl⟩
  rw [hk] at HB hle HNF
  clear hN hF hh
  have cI:∀ X,Below w.1.size w X→∀ vb,vb<X.1.size→X.cell? ⟨vb,0,none⟩=some (.int .i64 x)→Calls Tryz.prog 172 #[.slice ad n n,.int .i64 k,.slice (some ⟨vb,0,none⟩) 1 1] X fun e w'=>∃ g cap,e=.returned (.slice (some ⟨g,0,none⟩) (n+1) cap)∧X.1.size≤g∧RowF w' g ((n+1)*1) (Jc (inC s) k 1 (fun _=>.int .i64 x))∧Below X.1.size X w':=fun X hb vb hv hvc=>by
   have z:=hb.size
   have src:SrcRow X vb (vb+1) (some ⟨vb,0,none⟩) (1*1) (fun _=>.int .i64 x):=⟨fun j hj=>by
    obtain rfl:j=0:=by omega
    exact ⟨vb,0,rfl,lrf _,Nat.lt_succ_self _,hvc⟩,fun _ _=>rfl⟩
   have hs:=(HO.out.growB hb (fun h=>hg h)).srcR
   by_cases e:k=n
   ·subst e
    exact Iz k (by omega) (inC s) _ ad vb X g (g+1) hs src
   ·obtain ⟨b,off,e1,_⟩:=HO.out 0 (by omega)
    subst e1
    exact Iy n k (by omega) (by omega) (inC s) _ b off vb X g (g+1) (by have:=hg (by omega);omega) hv hs src
  have CI:=hid cI
  clear cI
  go_enter Tryz.func162,Tryz.ntmps162
  go_wp2_with (first|(go_at_call 171;go_must (refine (HB.out _ (br _ _)).mono ?_;rintro e w1 ⟨rfl,hb1⟩;have HB1:=hid hb1;clear hb1))|(go_at_call 172;go_must (refine (CI.out (w1.alloc (.cells #[.int .i64 x] 3)) (HB1.out.alloc HB1.out.size _) w1.1.size (by simp) (by simp)).mono ?_;rintro e w2 ⟨g2,cap2,rfl,hg2,hrow,hb2⟩;have HR:=hid hrow;have HB2:=hid hb2;clear hrow hb2)))
  go_ret
  have z1:=HB1.out.size
  simp only [World.size_alloc] at hg2
  unfold PA
  rw [HNF.out.1,HNF.out.2]
  exact ⟨_,_,g2,rfl,HR.out.intsOf (fun j _=>Kw s k x j),HR.out.lt,Or.inr (by omega),(HB1.out.alloc HB1.out.size _).trans (HB2.out.mono (by simp;omega))⟩
theorem Bx.new (w:World) (c:Array Value) (t:TypeId):Bx (w.alloc (.cells c t)) w.1.size c:=⟨Zt w c t,fun i=>World.frozen?_alloc_at _ _ _ _ rfl,by simp⟩
theorem Bx.new2 (w:World) (c d:Array Value) (t t2:TypeId):Bx ((w.alloc (.cells c t)).alloc (.cells d t2)) w.1.size c∧Bx ((w.alloc (.cells c t)).alloc (.cells d t2)) (w.1.size+1) d:=
 ⟨(Bx.new w c t).below (Zb _ _) (by simp),by have:=Bx.new (w.alloc (.cells c t)) d t2;rw [World.size_alloc] at this;exact this⟩
theorem Zd {P:Program} {ops:Array Oper} {rest:List Oper} {op:Oper} {a:Act} {w:World} {Q:Exit→Act→World→Prop} (hgd:op.guard=none) (ty:TypeId) (x y:Operand) (ho:op.op=.store ty x y)
  (b:Nat) (cs:List Value) (hx:a.eval x=.pointer (some ⟨b,0,none⟩)) (hy:a.eval y=.agg cs.toArray) {c:Array Value}
  (hb:Bx w b c) (hsz:c.size=cs.length) (hi:(P.info? ty).map (·.size)=some cs.length) (h1:∀ v ∈ cs,v.oneCell'=true)
  (h:∀ W2:World,Bx W2 b cs.toArray→Fr b (b+1) w W2→W2.1.size=w.1.size→wpList P ops Q rest (a.put op.dst undef) W2):wpList P ops Q (op::rest) a w:=by
 have ht:w.there b 0 cs.length:=hsz▸hb.there
 refine wpList_store_mid hgd ty x y ho b 0 cs.toArray hx hy (by simpa using ht) (by simpa using hi) (all_oneCell_toArray h1) (h _ ⟨fun i=>?_,fun i=>?_,?_⟩ (Zx _ _ _ _) (ZB _ _ _ _))
 ·rcases Nat.lt_or_ge i cs.length with hl|hl
  ·have:=World.rangeAt_setCells_same w b 0 cs ht i cs[i] (List.getElem?_eq_getElem hl)
   rw [Nat.zero_add] at this
   rw [List.getElem?_toArray,List.getElem?_eq_getElem hl]
   exact this
  ·rw [World.cell?_setCells_out b cs 0 w ⟨b,i,none⟩ (fun _ _=>Or.inr (by show 0+cs.length≤i;omega)),hb.cell i,Array.getElem?_eq_none (by omega),List.getElem?_toArray,List.getElem?_eq_none (by omega)]
 ·rw [World.frozen?_setCells];exact hb.free i
 ·rw [ZB];exact hb.lt
abbrev pN:RcP:=⟨rcA0,0,0,0,0,0,0,0,fun _=>none,fun _=>0,fun _=>0,fun _=>none,fun _=>0,fun _=>0⟩
theorem KT (n o:Int) (u:Bool) (j k:Nat):¬rb pN (rc0 n o u) j k:=by
 unfold rb
 split
 ·exact fun h=>h.1 rfl
 ·exact fun h=>h.1 rfl
 ·rintro (⟨h,_⟩|⟨i,h,_⟩)<;>exact absurd h (nlz _)
 ·exact fun h=>h.1 rfl
 ·exact fun h=>h.1 rfl
 ·exact fun h=>h.1 rfl
 ·rintro (⟨h,_⟩|⟨i,h,_⟩)<;>exact absurd h (nlz _)
theorem RcAt.none (w:World) (n o:Int) (u:Bool):RcAt w (rc0 n o u) pN:=
 ⟨⟨fun h=>absurd h (Nat.lt_irrefl _),fun h=>absurd h (Nat.lt_irrefl _)⟩,⟨fun h=>absurd h (Nat.lt_irrefl _),fun h=>absurd h (Nat.lt_irrefl _)⟩,⟨fun h=>absurd h (Nat.lt_irrefl _),fun h=>absurd h (Nat.lt_irrefl _),fun _i hi=>absurd hi (nlz _),fun _i hi=>absurd hi (nlz _),⟨fun _i hi=>absurd hi (nlz _),fun _i _j hi=>absurd hi (nlz _)⟩⟩,fun _i hi=>absurd hi (nlz _),fun _i hi=>absurd hi (nlz _),⟨fun h=>absurd h (Nat.lt_irrefl _),fun h=>absurd h (Nat.lt_irrefl _)⟩,⟨fun h=>absurd h (Nat.lt_irrefl _),fun h=>absurd h (Nat.lt_irrefl _),fun _i hi=>absurd hi (nlz _),fun _i hi=>absurd hi (nlz _),⟨fun _i hi=>absurd hi (nlz _),fun _i _j hi=>absurd hi (nlz _)⟩⟩,
  fun k ⟨j,_,hk⟩=>absurd hk (KT n o u j k),fun i _j k _ _ h=>absurd h (KT n o u i k)⟩
theorem EF {d:Dk} (h:dkB d=true):0≤d.kn∧d.kn≤d.n:=by
 simp only [dkB,Bool.and_eq_true] at h
 exact Yj h.2.2.2.1
theorem Fb {r:Rc} (h:rcB r=true):dkB r.dk=true:=by
 simp only [rcB,Yw,Bool.and_eq_true] at h
 exact h.2.2.2.1
theorem YB {P:Program} (w:World) (t ty e:TypeId) (z bytes:Nat) (zv:Value) (ht:P.underlying t=some (.slice e)) (hinf:(P.info? e).map (fun i=>(i.zero,i.size,i.bytes))=some (some zv,z,bytes)) (hz:0<z)
  (lo hi b:Nat) (ad:Option Addr) (n cap:Nat) (c:Nat→Value) (hc:SrcRow w lo hi ad (n*z) c) (h63:(n:Int)≤9223372036854775807) (hb:n*bytes≤140737488355328) :
  ∃ ad' cap' w',(Builtin.append_ #[t,t] ty #[.slice (some ⟨b,0,none⟩) 0 0,.slice ad n cap]).run P w=.ok (.slice ad' n cap') w'∧(0<n→ad'=some ⟨w.1.size,0,none⟩∧RowF w' w.1.size (n*z) c)∧Below w.1.size w w'∧n≤cap'∧(n=0→cap'=0)∧(0<n→zv.cells.size=z→Room w' w.1.size (cap'*z))∧(∃ g,ad'=some ⟨g,0,none⟩):=by
 rcases Nat.eq_zero_or_pos n with h0|h0
 ·subst h0
  obtain ⟨i0,hi0,hz0,hz1,hz2⟩:=info_parts hinf
  have hs:Src P z t (.slice ad 0 cap) 0 [] w:=by
   have:=hc.src (cap:=cap) hz ht
   rw [Nat.zero_mul] at this
   exact this
  have hrun:=run_append_room_src (P:=P) w t t ty e i0 ht hi0 b 0 0 0 (.slice ad 0 cap) 0 [] (by rw [hz1];exact hs) (lrf _) (fun j hj=>absurd hj (nlz _)) (fun j hj=>absurd hj (nlz _))
  exact ⟨_,_,_,hrun,fun h=>absurd h (Nat.lt_irrefl _),br _ _,lrf _,fun _=>rfl,fun h=>absurd h (Nat.lt_irrefl _),⟨_,rfl⟩⟩
 ·obtain ⟨cap',w',h1,h2,h3,h4,h5⟩:=Yp (P:=P) w t ty e z bytes zv ht hinf hz 0 0 lo hi (some ⟨b,0,none⟩) 0 0 (fun _=>undef) ⟨fun j hj=>absurd hj (by rw [Nat.zero_mul];exact nlz _),fun j hj=>absurd hj (by rw [Nat.zero_mul];exact nlz _)⟩ ad n cap c hc (by omega) (by omega) (by rw [Nat.zero_add];exact hb)
  rw [Nat.zero_add] at h1 h2 h4
  refine ⟨_,cap',w',h1,fun _=>⟨rfl,h2.congr (fun j _=>?_)⟩,h3,h4,fun h=>absurd h (by omega),fun _=>h5,⟨_,rfl⟩⟩
  unfold XD
  rw [Nat.zero_mul,if_neg (nlz _),Nat.sub_zero]
set_option maxRecDepth 100000 in
theorem XK (n:Nat) (x:Nat→Sl) (ad:Option Addr) (cap:Nat) (w:World) (lo hi:Nat) (hhi:hi≤w.1.size) (hl:(n:Int)≤1099511627776) (hc:SlsIn w lo hi ad n x) :
  Calls Tryz.prog 82 #[.slice ad n cap] w fun e w'=>∃ ad' cap' b',e=.returned (.slice ad' n cap')∧SlsAt w' ad' b' n x∧w.1.size≤b'∧(n≠0→b'<w'.1.size)∧Below w.1.size w w'∧(∃ g,ad'=some ⟨g,0,none⟩)∧n≤cap':=by
 have HC:=hid hc
 clear hc
 go_enter Tryz.func82,Tryz.ntmps82
 go_wp2_with ((with_reducible show wpList _ _ _ (⟨some 5,_,_,_,_,_⟩::_) _ _);obtain ⟨ad',cap',w',hrun,hrow,hb,hcl,_,_,hsm⟩:=YB (P:=Tryz.prog) (w.alloc (.cells #[] 109)) 32 32 109 2 24 (.agg #[.int .i64 0,.string ByteArray.empty]) Tryz.underlying32 Tryz.info109 (by omega) lo hi w.1.size ad n cap _ ((HC.out.below (Zb w (.cells #[] 109)) hhi).src) (by omega) (by omega);(simp only [World.size_alloc] at hrun hrow hb);refine Zq rfl _ _ 32 32 rfl _ _ _ _ rfl rfl hrun ?_;have HR:=hid hrow;have HB:Below w.1.size w w':=(Zb w (.cells #[] 109)).trans (hb.mono (Nat.le_succ _));have HCL:=hid hcl;have HSM:=hid hsm;clear hrun hrow hb hcl hsm)
 go_ret
 exact ⟨_,_,w.1.size+1,rfl,⟨fun h0=>(HR.out h0).1,fun h0=>⟨_,(HR.out h0).2,fun i _=>Ud x i⟩⟩,Nat.le_succ _,fun h0=>(HR.out (by omega)).2.lt,HB,HSM.out,HCL.out⟩
set_option maxRecDepth 100000 in
theorem N2 (d:Dk) (ad:Option Addr) (cap:Nat) (w:World) (lo hi:Nat) (hhi:hi≤w.1.size) (hl:(d.n:Int)≤1099511627776) (hc:SlsIn w lo hi ad d.n d.s) :
  Calls Tryz.prog 32 #[dkV d ad cap] w fun e w'=>∃ ad' cap' b',e=.returned (dkV d ad' cap')∧SlsAt w' ad' b' d.n d.s∧w.1.size≤b'∧(d.n≠0→b'<w'.1.size)∧Below w.1.size w w'∧(∃ g,ad'=some ⟨g,0,none⟩)∧d.n≤cap':=by
 have HC:=hid hc
 clear hc
 go_enter Tryz.func32,Tryz.ntmps32
 go_wp2_with fail
 refine (XK d.n d.s ad cap _ lo hi (by simp;omega) hl (HC.out.below (B:=w.1.size) ((Zb _ _).alloc (by simp) _) hhi)).mono ?_
 rintro e w1 ⟨ad',cap',b',rfl,ho,hge,hlt,hb,hsm,hcl⟩
 have HSM:=hid hsm
 have HCL:=hid hcl
 clear hsm hcl
 simp only [World.size_alloc] at hge
 obtain ⟨P1,R1,F1,F2⟩:=Xt hb
 have hB:Below w.1.size w w1:=((Zb _ _).alloc (by simp) _).trans (hb.mono (by simp;omega))
 have hz:w.1.size+1<w1.1.size:=by have:=hb.size;simp at this;omega
 have HO:=hid ho
 have HL:=hid hlt
 have q0:w1.cell? ⟨w.1.size,0,none⟩=some (.int .i64 d.pr):=P1 0
 have q1:w1.cell? ⟨w.1.size,1,none⟩=some (.int .i64 d.kn):=P1 1
 have q2:w1.cell? ⟨w.1.size,2,none⟩=some (.slice ad d.n cap):=P1 2
 have s0:w1.cell? ⟨w.1.size+1,0,none⟩=some (.int .i64 0):=R1 0
 have s1:w1.cell? ⟨w.1.size+1,1,none⟩=some (.int .i64 0):=R1 1
 have s2:w1.cell? ⟨w.1.size+1,2,none⟩=some (.slice none 0 0):=R1 2
 clear hb P1 R1 ho hlt
 go_wp2
 refine bodyPost_ret (v:=dkV d ad' cap') (by simp [results,Tryz.results32,go_sem,s0,s1,s2]) rfl ⟨ad',cap',b',rfl,?_,by omega,fun h0=>?_,?_,HSM.out,HCL.out⟩
 ·refine HO.out.frP (P:=fun q=>q=w.1.size∨q=w.1.size+1) ?_ (fun h0=>⟨by omega,HL.out h0⟩)
  iterate 4 refine FrP.setCell (P:=fun q=>q=w.1.size∨q=w.1.size+1) ?_ (by simp) _
  exact FrP.refl _ _
 ·have:=HL.out h0
  simp only [World.size_setCell]
  exact this
 ·refine hB.trans (FrP.below (P:=fun q=>q=w.1.size∨q=w.1.size+1) ?_ (fun k hk e=>by omega) hB.size)
  iterate 4 refine FrP.setCell (P:=fun q=>q=w.1.size∨q=w.1.size+1) ?_ (by simp) _
  exact FrP.refl _ _
set_option maxRecDepth 100000 in
theorem Es (m:Ms) (ad:Option Addr) (cap:Nat) (w:World) (lo hi:Nat) (hhi:hi≤w.1.size) (hl:(m.n:Int)≤1099511627776) (hc:SlsIn w lo hi ad m.n m.s) :
  Calls Tryz.prog 68 #[msV m ad cap] w fun e w'=>∃ ad' cap' b',e=.returned (msV m ad' cap')∧SlsAt w' ad' b' m.n m.s∧w.1.size≤b'∧(m.n≠0→b'<w'.1.size)∧Below w.1.size w w':=by
 have HC:=hid hc
 clear hc
 go_enter Tryz.func68,Tryz.ntmps68
 go_wp2_with fail
 refine (XK m.n m.s ad cap _ lo hi (by simp;omega) hl (HC.out.below (B:=w.1.size) ((Zb _ _).alloc (by simp) _) hhi)).mono ?_
 rintro e w1 ⟨ad',cap',b',rfl,ho,hge,hlt,hb,_⟩
 simp only [World.size_alloc] at hge
 obtain ⟨P1,R1,F1,F2⟩:=Xt hb
 have hB:Below w.1.size w w1:=((Zb _ _).alloc (by simp) _).trans (hb.mono (by simp;omega))
 have hz:w.1.size+1<w1.1.size:=by have:=hb.size;simp at this;omega
 have HO:=hid ho
 have HL:=hid hlt
 have q0:w1.cell? ⟨w.1.size,0,none⟩=some (.int .i64 m.kind):=P1 0
 have s0:w1.cell? ⟨w.1.size+1,0,none⟩=some (.int .i64 0):=R1 0
 have q1:w1.cell? ⟨w.1.size,1,none⟩=some (.int .i64 m.from_):=P1 1
 have s1:w1.cell? ⟨w.1.size+1,1,none⟩=some (.int .i64 0):=R1 1
 have q2:w1.cell? ⟨w.1.size,2,none⟩=some (.int .i64 m.to):=P1 2
 have s2:w1.cell? ⟨w.1.size+1,2,none⟩=some (.int .i64 0):=R1 2
 have q3:w1.cell? ⟨w.1.size,3,none⟩=some (.int .i64 m.bal):=P1 3
 have s3:w1.cell? ⟨w.1.size+1,3,none⟩=some (.int .i64 0):=R1 3
 have q4:w1.cell? ⟨w.1.size,4,none⟩=some (.int .i64 m.ix):=P1 4
 have s4:w1.cell? ⟨w.1.size+1,4,none⟩=some (.int .i64 0):=R1 4
 have q5:w1.cell? ⟨w.1.size,5,none⟩=some (.int .i64 m.kn):=P1 5
 have s5:w1.cell? ⟨w.1.size+1,5,none⟩=some (.int .i64 0):=R1 5
 have q6:w1.cell? ⟨w.1.size,6,none⟩=some (.string m.text):=P1 6
 have s6:w1.cell? ⟨w.1.size+1,6,none⟩=some (.string ByteArray.empty):=R1 6
 have q7:w1.cell? ⟨w.1.size,7,none⟩=some (.slice ad m.n cap):=P1 7
 have s7:w1.cell? ⟨w.1.size+1,7,none⟩=some (.slice none 0 0):=R1 7
 clear hb P1 R1 ho hlt
 go_wp2
 refine bodyPost_ret (v:=msV m ad' cap') (by simp [results,Tryz.results68,go_sem,s0,s1,s2,s3,s4,s5,s6,s7]) rfl ⟨ad',cap',b',rfl,?_,by omega,fun h0=>?_,?_⟩
 ·refine HO.out.frP (P:=fun q=>q=w.1.size∨q=w.1.size+1) ?_ (fun h0=>⟨by omega,HL.out h0⟩)
  iterate 9 refine FrP.setCell (P:=fun q=>q=w.1.size∨q=w.1.size+1) ?_ (by simp) _
  exact FrP.refl _ _
 ·have:=HL.out h0
  simp only [World.size_setCell]
  exact this
 ·refine hB.trans (FrP.below (P:=fun q=>q=w.1.size∨q=w.1.size+1) ?_ (fun k hk e=>by omega) hB.size)
  iterate 9 refine FrP.setCell (P:=fun q=>q=w.1.size∨q=w.1.size+1) ?_ (by simp) _
  exact FrP.refl _ _
theorem FrP.of_grown {w w':World} {row:Option Nat} (h:w.grownBy w' row):FrP (fun q=>row=some q) w w':=⟨h.os,h.tape,h.output,h.size,fun k hk ho=>h.block k hk (fun e=>ho e.symm)⟩
theorem Yr {w w':World} {base e z n:Nat} {v:Value} {xs:List Value} {P:Nat→Prop} (h:w.ownsRow base e z v n xs) (hf:FrP P w w') (hp:∀ g,v.ownBlock=some g→¬P g):w'.ownsRow base e z v n xs:=by
 refine ⟨h.1,?_⟩
 rcases h.2 with h0|⟨g,cap,cur,rfl,h1,h2,h3⟩
 ·exact Or.inl h0
 ·exact Or.inr ⟨g,cap,cur,rfl,h1,(hf.block g (Array.getElem?_eq_some_iff.1 h2).1 (hp g rfl)).trans h2,h3⟩
theorem Ut (w:World) (l:List Value) (t:TypeId):∀ j u,l[j]? = some u→(w.alloc (.cells l.toArray t)).cell? ((⟨w.1.size,0,none⟩:Addr).add j)=some u:=by
 intro j u h
 rw [show ((⟨w.1.size,0,none⟩:Addr).add j)=⟨w.1.size,j,none⟩ by unfold Addr.add;split<;>simp_all,World.cell?_alloc_new]
 simpa using h
def IM (c:Nat→Value) (m:Nat) (news:List Value):Nat→Value:=fun j=>if j<m then c j else news.getD (j-m) (.int .i64 0)
theorem KB (c:Nat→Value) (m:Nat) (news:List Value):IM c m news m=news.getD 0 (.int .i64 0):=by
 unfold IM
 rw [if_neg (Nat.lt_irrefl _),Nat.sub_self]
theorem Xq (c:Nat→Value) (m:Nat) (news:List Value) (j:Nat):IM c m news (m+j)=news.getD j (.int .i64 0):=by
 unfold IM
 rw [if_neg (by omega),Nat.add_sub_cancel_left]
theorem Xg (c:Nat→Value) (m:Nat) (news:List Value):Zg m c ++ news=Zg (m+news.length) (IM c m news):=by
 apply List.ext_getElem
 ·simp [Zg]
 ·intro j h1 h2
  have hj:j<m+news.length:=by simpa [Zg] using h2
  rw [ZG,List.getElem_append]
  unfold IM
  by_cases h:j<m
  ·rw [dif_pos (by rw [Zj];exact h),ZG,if_pos h]
  ·rw [dif_neg (by rw [Zj];exact h),if_neg h]
   simp only [Zj]
   rw [List.getD_eq_getElem?_getD,List.getElem?_eq_getElem (by omega)]
   rfl
theorem JJ {w:World} {base e z n g cap:Nat} {c:Nat→Value} (h:w.ownsRow base e z (.slice (some ⟨g,0,none⟩) n cap) n (Zg (n*z) c)):RowF w g (n*z) c:=by
 refine ⟨(h.lt g rfl).2,fun j=>h.frozenAt j,fun j hj=>?_⟩
 rw [h.cellAt j hj,List.getElem?_eq_getElem (by rw [Zj];exact hj),ZG]
structure BdMs (w:World) (base:Nat) (v:Value) (k:Nat) (x:Nat→Ms) (A:Nat→Option Addr) (C hb:Nat→Nat):Prop where
 row:∃ c,w.ownsRow base 52 8 v k (Zg (k*8) c)∧∀ i,i<k→atMs c i (x i) (A i) (C i)
 hold:∀ i,i<k→SlsAt w (A i) (hb i) (x i).n (x i).s
 hlt:∀ i,i<k→(x i).n≠0→base≤hb i∧hb i<w.1.size
 ne:∀ i,i<k→(x i).n≠0→v.ownBlock≠some (hb i)
 inj:∀ i j,i<k→j<k→(x i).n≠0→(x j).n≠0→hb i=hb j→i=j
theorem BdMs.fr {w:World} {base:Nat} {v:Value} {k:Nat} {x:Nat→Ms} {A:Nat→Option Addr} {C hb:Nat→Nat} {w':World} {P:Nat→Prop} (h:BdMs w base v k x A C hb) (hf:FrP P w w') (hp:∀ q,base≤q→q<w.1.size→¬P q):BdMs w' base v k x A C hb:=
 ⟨by obtain ⟨c,r,e⟩:=h.row;exact ⟨c,Yr r hf (fun g hg=>hp g (r.lt g hg).1 (r.lt g hg).2),e⟩,fun i hi=>(h.hold i hi).frP hf (fun h0=>⟨hp _ (h.hlt i hi h0).1 (h.hlt i hi h0).2,(h.hlt i hi h0).2⟩),fun i hi h0=>⟨(h.hlt i hi h0).1,ltl (h.hlt i hi h0).2 hf.size⟩,h.ne,h.inj⟩
theorem BdMs.grow {w:World} {base:Nat} {v:Value} {k:Nat} {x:Nat→Ms} {A:Nat→Option Addr} {C hb:Nat→Nat} {w':World} (h:BdMs w base v k x A C hb) (hf:Below w.1.size w w'):BdMs w' base v k x A C hb:=h.fr (FrP.of_below (P:=fun _=>False) hf) (fun _ _ _ h=>h)
theorem apSb3 {P:Prop} (h:P:=by
  by_cases e1:i=k
  ·by_cases e2:j=k
   ·rw [e1,e2]
   ·subst e1
    rw [Zm,Zn _ _ e2] at e
    exact absurd e.symm (hd j (by omega) h1 h0)
  ·by_cases e2:j=k
   ·subst e2
    rw [Zm,Zn _ _ e1] at e
    exact absurd e (hd i (by omega) h0 h1)
   ·rw [Zn _ _ e1,Zn _ _ e2] at e
    exact h.inj i j (by omega) (by omega) h0 h1 e):P:=h
theorem apSb4 {P:Prop} (h:P:=by
  by_cases e:i=k
  ·subst e
   rw [Zm]
   rcases hw with hw|hw
   ·rw [hw];exact hv h0
   ·rw [hw];intro q;cases q;exact Nat.lt_irrefl _ (hl h0).2
  ·rw [Zn _ _ e]
   rcases hw with hw|hw
   ·rw [hw];exact h.ne i (by omega) h0
   ·rw [hw];intro q
    have h2:=(h.hlt i (by omega) h0).2
    injection q with q
    omega):P:=h
theorem apSb6 {P:Prop} (h:P:=by
  by_cases e:i=k
  ·subst e
   rw [Zm,Zm]
   exact hs.frP F (fun h0=>⟨hv h0,(hl h0).2⟩)
  ·rw [Zn _ _ e,Zn _ _ e]
   exact (h.hold i (by omega)).frP F (fun h0=>⟨h.ne i (by omega) h0,(h.hlt i (by omega) h0).2⟩)):P:=h
theorem apSb7 {P:Prop} (h:P:=by
  by_cases e:i=k
  ·subst e
   rw [Zm]
   exact ⟨(hl h0).1,ltl (hl h0).2 hg.size⟩
  ·rw [Zn _ _ e]
   exact ⟨(h.hlt i (by omega) h0).1,ltl (h.hlt i (by omega) h0).2 hg.size⟩):P:=h
theorem BdMs.app {w:World} {base:Nat} {v:Value} {k:Nat} {x:Nat→Ms} {A:Nat→Option Addr} {C hb:Nat→Nat} {w':World} {v':Value} {c:Nat→Value} {ad':Option Addr} {cap' b':Nat} (h:BdMs w base v k x A C hb) (hat:∀ i,i<k→atMs c i (x i) (A i) (C i))
  (ho:w'.ownsRow base 52 8 v' (k+1) (Zg (k*8) c ++ [.int .i64 (x k).kind,.int .i64 (x k).from_,.int .i64 (x k).to,.int .i64 (x k).bal,.int .i64 (x k).ix,.int .i64 (x k).kn,.string (x k).text,.slice ad' (x k).n cap'])) (hg:w.grownBy w' v.ownBlock) (hw:v'.ownBlock=v.ownBlock∨v'.ownBlock=some w.1.size)
  (hs:SlsAt w ad' b' (x k).n (x k).s) (hl:(x k).n≠0→base≤b'∧b'<w.1.size) (hv:(x k).n≠0→v.ownBlock≠some b') (hd:∀ i,i<k→(x i).n≠0→(x k).n≠0→hb i≠b') :
  BdMs w' base v' (k+1) x (updF A k ad') (updF C k cap') (updF hb k b'):=by
 have F:=FrP.of_grown hg
 refine ⟨⟨IM c (k*8) [.int .i64 (x k).kind,.int .i64 (x k).from_,.int .i64 (x k).to,.int .i64 (x k).bal,.int .i64 (x k).ix,.int .i64 (x k).kn,.string (x k).text,.slice ad' (x k).n cap'],?_,fun i hi=>?_⟩,fun i hi=>?_,fun i hi h0=>?_,fun i hi h0=>?_,fun i j hi hj h0 h1 e=>?_⟩
 ·rw [Xg] at ho
  have e:k*8+([.int .i64 (x k).kind,.int .i64 (x k).from_,.int .i64 (x k).to,.int .i64 (x k).bal,.int .i64 (x k).ix,.int .i64 (x k).kn,.string (x k).text,.slice ad' (x k).n cap']:List Value).length=(k+1)*8:=by show k*8+8=_;omega
  rw [e] at ho
  exact ho
 ·by_cases e:i=k
  ·subst e
   rw [Zm,Zm]
   exact ⟨KB _ _ _,Xq _ _ _ 1,Xq _ _ _ 2,Xq _ _ _ 3,Xq _ _ _ 4,Xq _ _ _ 5,Xq _ _ _ 6,Xq _ _ _ 7⟩
  ·rw [Zn _ _ e,Zn _ _ e]
   obtain ⟨a0,a1,a2,a3,a4,a5,a6,a7⟩:=hat i (by omega)
   exact ⟨(if_pos (by omega)).trans a0,(if_pos (by omega)).trans a1,(if_pos (by omega)).trans a2,(if_pos (by omega)).trans a3,(if_pos (by omega)).trans a4,(if_pos (by omega)).trans a5,(if_pos (by omega)).trans a6,(if_pos (by omega)).trans a7⟩
 ·exact apSb6
 ·exact apSb7
 ·exact apSb4
 ·exact apSb3
theorem apSb1 {P:Prop} (h:P:=by
  obtain ⟨c,r,hat⟩:=h.row
  rcases r.2 with ⟨rfl,rfl⟩|⟨g,cap,cur,rfl,h1,_⟩
  ·exact ⟨none,0,0,rfl,⟨fun h0=>absurd h0 (Nat.lt_irrefl _),fun h0=>absurd h0 (Nat.lt_irrefl _),fun i hi=>absurd hi (nlz _),fun i hi=>absurd hi (nlz _),⟨fun i hi=>absurd hi (nlz _),fun i j hi=>absurd hi (nlz _)⟩⟩,fun q hq=>by
    rcases hq with ⟨h0,_⟩|⟨i,hi,_⟩
    ·exact absurd h0 (Nat.lt_irrefl _)
    ·exact absurd hi (nlz _)⟩
  ·refine ⟨_,cap,g,rfl,⟨fun _=>rfl,fun _=>⟨c,JJ r,hat⟩,h.hold,fun i hi h0=>(h.hlt i hi h0).2,⟨fun i hi h0 e=>h.ne i hi h0 (by rw [e];rfl),h.inj⟩⟩,fun q hq=>?_⟩
   rcases hq with ⟨h0,rfl⟩|⟨i,hi,h0,rfl⟩
   ·exact h1
   ·exact (h.hlt i hi h0).1):P:=h
theorem BdMs.done {w:World} {base:Nat} {v:Value} {k:Nat} {x:Nat→Ms} {A:Nat→Option Addr} {C hb:Nat→Nat} (h:BdMs w base v k x A C hb):∃ ad cap g,v=.slice ad k cap∧MssAt w ad g k x A C hb∧∀ q,blkH g k (fun i=>(x i).n) hb q→base≤q:=by
 exact apSb1
structure BdAk (w:World) (base:Nat) (v:Value) (k:Nat) (x:Nat→Ak) (A:Nat→Option Addr) (C hb:Nat→Nat):Prop where
 row:∃ c,w.ownsRow base 108 2 v k (Zg (k*2) c)∧∀ i,i<k→atAk c i (x i) (A i) (C i)
 hold:∀ i,i<k→IntsOwn w (hb i) ((hb i)+1) (A i) (x i).n (x i).s
 hlt:∀ i,i<k→(x i).n≠0→base≤hb i∧hb i<w.1.size
 ne:∀ i,i<k→(x i).n≠0→v.ownBlock≠some (hb i)
 inj:∀ i j,i<k→j<k→(x i).n≠0→(x j).n≠0→hb i=hb j→i=j
theorem BdAk.fr {w:World} {base:Nat} {v:Value} {k:Nat} {x:Nat→Ak} {A:Nat→Option Addr} {C hb:Nat→Nat} {w':World} {P:Nat→Prop} (h:BdAk w base v k x A C hb) (hf:FrP P w w') (hp:∀ q,base≤q→q<w.1.size→¬P q):BdAk w' base v k x A C hb:=
 ⟨by obtain ⟨c,r,e⟩:=h.row;exact ⟨c,Yr r hf (fun g hg=>hp g (r.lt g hg).1 (r.lt g hg).2),e⟩,fun i hi=>(h.hold i hi).frP hf (fun h0=>⟨hp _ (h.hlt i hi h0).1 (h.hlt i hi h0).2,(h.hlt i hi h0).2⟩),fun i hi h0=>⟨(h.hlt i hi h0).1,ltl (h.hlt i hi h0).2 hf.size⟩,h.ne,h.inj⟩
theorem BdAk.grow {w:World} {base:Nat} {v:Value} {k:Nat} {x:Nat→Ak} {A:Nat→Option Addr} {C hb:Nat→Nat} {w':World} (h:BdAk w base v k x A C hb) (hf:Below w.1.size w w'):BdAk w' base v k x A C hb:=h.fr (FrP.of_below (P:=fun _=>False) hf) (fun _ _ _ h=>h)
theorem BdAk.app {w:World} {base:Nat} {v:Value} {k:Nat} {x:Nat→Ak} {A:Nat→Option Addr} {C hb:Nat→Nat} {w':World} {v':Value} {c:Nat→Value} {ad':Option Addr} {cap' b':Nat} (h:BdAk w base v k x A C hb) (hat:∀ i,i<k→atAk c i (x i) (A i) (C i))
  (ho:w'.ownsRow base 108 2 v' (k+1) (Zg (k*2) c ++ [.int .i64 (x k).ix,.slice ad' (x k).n cap'])) (hg:w.grownBy w' v.ownBlock) (hw:v'.ownBlock=v.ownBlock∨v'.ownBlock=some w.1.size)
  (hs:IntsOwn w b' (b'+1) ad' (x k).n (x k).s) (hl:(x k).n≠0→base≤b'∧b'<w.1.size) (hv:(x k).n≠0→v.ownBlock≠some b') (hd:∀ i,i<k→(x i).n≠0→(x k).n≠0→hb i≠b') :
  BdAk w' base v' (k+1) x (updF A k ad') (updF C k cap') (updF hb k b'):=by
 have F:=FrP.of_grown hg
 refine ⟨⟨IM c (k*2) [.int .i64 (x k).ix,.slice ad' (x k).n cap'],?_,fun i hi=>?_⟩,fun i hi=>?_,fun i hi h0=>?_,fun i hi h0=>?_,fun i j hi hj h0 h1 e=>?_⟩
 ·rw [Xg] at ho
  have e:k*2+([.int .i64 (x k).ix,.slice ad' (x k).n cap']:List Value).length=(k+1)*2:=by show k*2+2=_;omega
  rw [e] at ho
  exact ho
 ·by_cases e:i=k
  ·subst e
   rw [Zm,Zm]
   exact ⟨KB _ _ _,Xq _ _ _ 1⟩
  ·rw [Zn _ _ e,Zn _ _ e]
   obtain ⟨a0,a1⟩:=hat i (by omega)
   exact ⟨(if_pos (by omega)).trans a0,(if_pos (by omega)).trans a1⟩
 ·exact apSb6
 ·exact apSb7
 ·exact apSb4
 ·exact apSb3
theorem BdAk.done {w:World} {base:Nat} {v:Value} {k:Nat} {x:Nat→Ak} {A:Nat→Option Addr} {C hb:Nat→Nat} (h:BdAk w base v k x A C hb):∃ ad cap g,v=.slice ad k cap∧AksAt w ad g k x A C hb∧∀ q,blkH g k (fun i=>(x i).n) hb q→base≤q:=by
 exact apSb1
end Go.Proofs.YtokkbdlofbdljaaGreat
namespace Go.Proofs.YtokkbdlofbdljaaGreat
open Go.RowKit
theorem MssAt.blt {w:World} {ad:Option Addr} {g n:Nat} {x:Nat→Ms} {A:Nat→Option Addr} {C hb:Nat→Nat} (h:MssAt w ad g n x A C hb) {k:Nat} (hk:blkH g n (fun i=>(x i).n) hb k):k<w.1.size:=by
 rcases hk with ⟨h0,rfl⟩|⟨i,hi,h0,rfl⟩
 ·obtain ⟨c,r,_⟩:=h.row h0;exact r.lt
 ·exact h.hlt i hi h0
theorem AksAt.blt {w:World} {ad:Option Addr} {g n:Nat} {x:Nat→Ak} {A:Nat→Option Addr} {C hb:Nat→Nat} (h:AksAt w ad g n x A C hb) {k:Nat} (hk:blkH g n (fun i=>(x i).n) hb k):k<w.1.size:=by
 rcases hk with ⟨h0,rfl⟩|⟨i,hi,h0,rfl⟩
 ·obtain ⟨c,r,_⟩:=h.row h0;exact r.lt
 ·exact h.hlt i hi h0
end Go.Proofs.YtokkbdlofbdljaaGreat
