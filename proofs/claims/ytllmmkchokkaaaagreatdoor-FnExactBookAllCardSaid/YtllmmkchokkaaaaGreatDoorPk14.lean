import Derived.Test.YtllmmkchokkaaaaGreatDoorPk12
import Derived.Test.YtllmmkchokkaaaaGreatDoorPk13
import Derived.Deep.AppendSrc
set_option maxRecDepth 100000
set_option maxHeartbeats 1000000
namespace Go.Proofs.YtllmmkchokkaaaaGreatDoor
open Go.RowKit Go.Maps
theorem wpList_append_zero {P:Program} {w:World} {ops:Array Oper} {rest:List Oper} {o:Oper} {a:Act} {Q:Exit→Act→World→Prop} (hgd:o.guard=none) (s x:Operand) (t:TypeId)
  (ho:o.op=.call { callee:=.builtin .append,args:=#[s,x],argTypes:=#[t,t] })
  (e:TypeId) (i:TypeInfo) (ht:P.underlying t=some (.slice e)) (hi:P.info? e=some i)
  (b off sLen sCap:Nat) (hle:sLen≤sCap) (hs:a.eval s=.slice (some ⟨b,off,none⟩) sLen sCap) (ad:Option Addr) (c:Nat) (hx:a.eval x=.slice ad 0 c)
  (h:wpList P ops Q rest (a.put o.dst (.slice (some ⟨b,off,none⟩) sLen sCap)) w):wpList P ops Q (o::rest) a w:=by
 refine wpList_plain hgd fun K hK=>?_
 have hsrc:Src P i.size t (.slice ad 0 c) 0 [] w:=by
  cases ad with
  | none=>exact Src.ofNil w ht c
  | some a0=>exact Src.ofSlice w ht a0 0 c [] Zd (fun j u hj=>by simp at hj) (fun u hu=>by cases hu)
 have hrun:=run_append_room_src (P:=P) w t t o.type e i ht hi b off sLen sCap _ 0 [] hsrc Za (fun j hj=>by simp at hj) (fun j hj=>by simp at hj)
 simp only [Nat.add_zero,World.setCells] at hrun
 unfold Oper.wp
 simp [execOp,ho,resolve,invoke,builtin,hs,hx,hrun,Result.andThen]
 exact hK _ _ h
def strCells (n:Nat) (s:Nat→ByteArray):List Value:=(List.range n).map fun i=>.string (s i)
theorem strCells_get {n:Nat} {s:Nat→ByteArray} {j:Nat} {u:Value} (h:(strCells n s)[j]? = some u):j<n∧u=.string (s j):=by
 simp only [strCells,List.getElem?_map] at h
 rcases Nat.lt_or_ge j n with h1|h1
 ·rw [List.getElem?_eq_getElem (by simpa using h1)] at h
  simp at h
  exact ⟨h1,h.symm⟩
 ·rw [List.getElem?_eq_none (by simpa using h1)] at h
  cases h
theorem strCells_at {n:Nat} {s:Nat→ByteArray} {j:Nat} (h:j<n):(strCells n s)[j]? = some (.string (s j)):=by
 simp [strCells,h]
theorem strCells_len (n:Nat) (s:Nat→ByteArray):(strCells n s).length=n:=by simp [strCells]
theorem strCells_one (n:Nat) (s:Nat→ByteArray):∀ u ∈ strCells n s,u.oneCell'=true:=by
 intro u hu
 obtain ⟨i,_,rfl⟩:=List.mem_map.1 hu
 rfl
theorem strsOwn_of_row {w:World} {base n:Nat} {v:Value} {s:Nat→ByteArray} (h:w.ownsRow base 9 1 v n (strCells n s)) (hn:0<n):∃ g cap,v=.slice (some ⟨g,0,none⟩) n cap∧n≤cap∧StrsOwn w base w.1.size (some ⟨g,0,none⟩) n s:=by
 rcases h.2 with ⟨_,h0⟩|⟨g,cap,cur,rfl,hg,hh,hr⟩
 ·omega
 ·refine ⟨g,cap,rfl,hr.1,fun i hi=>⟨g,0,rfl,hg,(Array.getElem?_eq_some_iff.1 hh).1,?_,?_⟩⟩
  ·have:=World.ownsRow.cellAt (g:=g) (cap:=cap) h i Za
   simpa [strCells_at hi] using this
  ·simpa using World.ownsRow.frozenAt (g:=g) (cap:=cap) h i
theorem three_grown {w w1:World} {c0 c1:Array Value} {t0 t1:TypeId} {o2:Obj} (hg:(((w.alloc (.cells c0 t0)).alloc (.cells c1 t1)).alloc o2).grownBy w1 (some (w.1.size+1+1))) :
  (∀ i,w1.cell? ⟨w.1.size,i,none⟩=c0[i]?)∧(∀ i,w1.cell? ⟨w.1.size+1,i,none⟩=c1[i]?)∧(∀ i,w1.frozen? ⟨w.1.size,i,none⟩=false)∧(∀ i,w1.frozen? ⟨w.1.size+1,i,none⟩=false)∧Below w.1.size w w1∧w.1.size+2<w1.1.size:=by
 have hB2:Below (w.1.size+1+1) ((w.alloc (.cells c0 t0)).alloc (.cells c1 t1)) w1:=
  ((Below.refl _ _).alloc Zd o2).grown hg Zd (fun k hk=>by cases hk;exact Nat.le_refl _)
 have hB2':Below ((w.alloc (.cells c0 t0)).alloc (.cells c1 t1)).1.size ((w.alloc (.cells c0 t0)).alloc (.cells c1 t1)) w1:=by simpa using hB2
 obtain ⟨A0,A1,F0,F1⟩:=two_cell hB2'
 refine ⟨A0,A1,F0,F1,((below_alloc _ _).alloc Zd _).trans (hB2.mono Za),?_⟩
 have:=hg.size;simp at this;omega
theorem specOb_any (x:Ob) (ad:Option Addr) (cap:Nat) (w:World) (lo hi:Nat) (hhi:hi≤w.1.size) (hl:(x.hn:Int)≤8796093022208) (hc:StrsIn w lo hi ad x.hn x.hs) :
  Calls Tryz.prog 132 #[.agg #[.string x.kind,.string x.name,.int .i64 x.ver,.int .i64 x.born,.string x.text,.bool x.ending,.slice ad x.hn cap]] w fun e w'=>∃ ad' cap',e=.returned (.agg #[.string x.kind,.string x.name,.int .i64 x.ver,.int .i64 x.born,.string x.text,.bool x.ending,.slice ad' x.hn cap'])∧x.hn≤cap'∧StrsOwn w' w.1.size w'.1.size ad' x.hn x.hs∧Below w.1.size w w':=by
 obtain ⟨i0,hi0,hz0,hz1,hz2⟩:=info_parts Tryz.info9
 rcases Nat.eq_zero_or_pos x.hn with h0|hpos
 ·obtain ⟨ki,na,ve,bo,te,en,hn,hs⟩:=x
  dsimp only at h0 hc hl ⊢
  subst h0
  go_enter Tryz.func132,Tryz.ntmps132
  go_wp2_with (at_builtin;refine wpList_append_zero rfl _ _ 108 rfl 9 i0 Tryz.underlying108 hi0 _ _ _ _ Zbt rfl _ _ rfl ?_)
  refine bodyPost_ret (v:=.agg #[.string ki,.string na,.int .i64 ve,.int .i64 bo,.string te,.bool en,.slice (some ⟨w.1.size+1+1,0,none⟩) 0 0]) (by simp [results,Tryz.results132,go_sem]) rfl ⟨_,0,rfl,Nat.le_refl _,?_,?_⟩
  ·intro i hi';exact absurd hi' (Nat.not_lt_zero _)
  ·exact (((Below.refl _ _).alloc Zbt _).alloc Zd _).alloc Zc _
 ·obtain ⟨b,off,rfl,hlo,hbh,_⟩:=hc 0 hpos
  have hown0:∀ (o1 o2:Obj),(((w.alloc o1).alloc o2).alloc (.cells #[] 9)).ownsRow (w.1.size+1+1) 9 1 (.slice (some ⟨w.1.size+1+1,0,none⟩) 0 0) 0 []:=fun o1 o2=>by
   have:=World.ownsRow_made (base:=w.1.size+1+1) (e:=9) (size:=1) ((w.alloc o1).alloc o2) #[] 0 Zd Zbw rfl
   simpa using this
  have hb0:∀ (o1 o2 o3:Obj),Below w.1.size w (((w.alloc o1).alloc o2).alloc o3):=fun o1 o2 o3=>(((Below.refl _ _).alloc Zbt _).alloc Zd _).alloc Zc _
  have hnews:∀ (o1 o2 o3:Obj),∀ j u,(strCells x.hn x.hs)[j]? = some u→(((w.alloc o1).alloc o2).alloc o3).cell? ((⟨b,off,none⟩:Addr).add j)=some u:=fun o1 o2 o3 j u hj=>by
   obtain ⟨h1,rfl⟩:=strCells_get hj
   obtain ⟨b',off',e,_,_,e4⟩:=hc j h1
   cases e
   have ea:((⟨b,off,none⟩:Addr).add j)=⟨b,off+j,none⟩:=by simp [Addr.add]
   rw [ea,(hb0 o1 o2 o3).cell (p:=⟨b,off+j,none⟩) Zk]
   exact e4
  have HB:=hid hb0
  clear hb0
  go_enter Tryz.func132,Tryz.ntmps132
  go_wp2_with (at_builtin;go_must (refine wpList_append_own _ rfl _ _ 108 rfl (w.1.size+1+1) 9 i0 (.string ByteArray.empty) 1 16 Tryz.underlying108 hi0 hz0 hz1 hz2 rfl Zb _ 0 [] rfl (hown0 _ _) ⟨b,off,none⟩ x.hn cap (strCells x.hn x.hs) rfl (by rw [strCells_len];omega) (hnews _ _ _) (strCells_one _ _) Zs Za Zd ?_;intro v1 w1 hown1 hgrow1 _;obtain ⟨g',cap',rfl,hcp,hS⟩:=strsOwn_of_row (by simpa only [Nat.zero_add,List.nil_append] using hown1) hpos;clear hown1;obtain ⟨A0,A1,F0,F1,hB,hz⟩:=three_grown hgrow1;clear hgrow1;have p0:=A0 0;have p1:=A0 1;have p2:=A0 2;have p3:=A0 3;have p4:=A0 4;have p5:=A0 5;have p6:=A0 6;have q0:=A1 0;have q1:=A1 1;have q2:=A1 2;have q3:=A1 3;have q4:=A1 4;have q5:=A1 5;have q6:=A1 6;simp only [List.getElem?_toArray,List.getElem?_cons_succ,List.getElem?_cons_zero] at p0 p1 p2 p3 p4 p5 p6 q0 q1 q2 q3 q4 q5 q6;clear A0 A1;have HS:=hid hS;clear hS hown0 hnews hc))
  refine bodyPost_ret (v:=.agg #[.string x.kind,.string x.name,.int .i64 x.ver,.int .i64 x.born,.string x.text,.bool x.ending,.slice (some ⟨g',0,none⟩) x.hn cap']) (by simp [results,Tryz.results132,go_sem,q0,q1,q2,q3,q4,q5,q6]) rfl ⟨_,_,rfl,hcp,?_,?_⟩
  ·simp only [World.size_setCell]
   refine (StrsOwn.fr HS.out (lo2:=w.1.size) (hi2:=w.1.size+2) ?_ Zbt Za).mono Za Zbt
   iterate 8 refine Fr.setCell ?_ Zm Zm _
   exact Fr.refl _ _ _
  ·refine hB.trans (Fr.below (lo:=w.1.size) (hi:=w.1.size+2) ?_ Zbt hB.size)
   iterate 8 refine Fr.setCell ?_ Zm Zm _
   exact Fr.refl _ _ _
theorem lit_int {a b:Int} (h:(DataW.lit (.int .i64 a):DataW Unit)=.lit (.int .i64 b)):a=b:=by cases h;rfl
def ob0:Ob:=⟨⟨#[]⟩,⟨#[]⟩,0,0,⟨#[]⟩,false,0,fun _=>⟨#[]⟩⟩
def fndOb (x:Nat→Ob) (a b:ByteArray) (n:Nat):Ob:=match fnd x a b n with|some i=>x i|none=>ob0
def fndIs (x:Nat→Ob) (a b:ByteArray) (n:Nat):Bool:=(fnd x a b n).isSome
theorem fnd_keep {x:Nat→Ob} {a b:ByteArray} {k i:Nat} (h:fnd x a b k=some i):∀ {n:Nat},k≤n→fnd x a b n=some i:=by
 intro n hn
 induction n with
 | zero=>
   have:k=0:=Za
   subst this;exact h
 | succ m ih=>
   rcases Nat.lt_or_ge m k with h1|h1
   ·have:k=m+1:=Za
    subst this;exact h
   ·exact fnd_some (ih h1)
theorem toList_inj' {a b:ByteArray} (h:a.toList=b.toList):a=b:=by
 have h1:a.data.toList=b.data.toList:=by simpa [ByteArray.toList_eq] using h
 cases a;cases b
 simp at h1
 exact congrArg ByteArray.mk h1
theorem specFind_any (now floor:Int) (n:Nat) (x:Nat→Ob) (a1 a2 a3:Option Addr) (c1 n2 c2 n3 c3:Nat) (ki na:ByteArray) (w:World) (lo hi:Nat) (hhi:hi≤w.1.size) (hl:(n:Int)≤1099511627776) (hf:∀ i,i<n→ObFit (x i)) (hc:ObjsIn w lo hi a1 n x) :
  Calls Tryz.prog 76 #[.agg #[.int .i64 now,.int .i64 floor,.slice a1 n c1,.slice a2 n2 c2,.slice a3 n3 c3],.string ki,.string na] w fun e w'=>∃ ad' cap',
   e=.returned (.tuple #[.agg #[.string (fndOb x ki na n).kind,.string (fndOb x ki na n).name,.int .i64 (fndOb x ki na n).ver,.int .i64 (fndOb x ki na n).born,.string (fndOb x ki na n).text,.bool (fndOb x ki na n).ending,.slice ad' (fndOb x ki na n).hn cap'],.bool (fndIs x ki na n)]) ∧
   (fndOb x ki na n).hn≤cap'∧StrsOwn w' w.1.size w'.1.size ad' (fndOb x ki na n).hn (fndOb x ki na n).hs∧Below w.1.size w w':=by
 have hB0:∀ o1 o2:Obj,Below w.1.size w ((w.alloc o1).alloc o2):=fun o1 o2=>((Below.refl _ _).alloc Zbt _).alloc Zd _
 have HB:=hid hB0
 clear hB0
 go_enter Tryz.func76,Tryz.ntmps76
 go_wp2
 go_loopw [8] (fun i wr=>∃ k:Nat,k≤n∧i=.int .i64 k∧fnd x ki na k=none∧wr=(w.alloc (.cells #[.int .i64 now,.int .i64 floor,.slice a1 n c1,.slice a2 n2 c2,.slice a3 n3 c3] 35)).alloc (.cells #[.string ⟨#[]⟩,.string ⟨#[]⟩,.int .i64 0,.int .i64 0,.string ⟨#[]⟩,.bool false,.slice none 0 0] 118)) (fun i _=>n-(intOf i).toNat)
 case atStart=>exact ⟨0,Nat.zero_le _,rfl,rfl,rfl⟩
 case round=>
  obtain ⟨k,hk,rfl,hfd,rfl⟩:=hrel
  by_cases hkn:k<n
  ·obtain ⟨b,off,ah,ch,rfl,hlo,hbh,hcx,hsx⟩:=hc k hkn
   have hfi:=(hf k hkn).h
   obtain ⟨d0,d1,d2,d3,d4,d5,d6⟩:=hcx.below (HB.out (.cells #[.int .i64 now,.int .i64 floor,.slice (some ⟨b,off,none⟩) n c1,.slice a2 n2 c2,.slice a3 n3 c3] 35) (.cells #[.string ⟨#[]⟩,.string ⟨#[]⟩,.int .i64 0,.int .i64 0,.string ⟨#[]⟩,.bool false,.slice none 0 0] 118)) Za
   have HF:=hid hfd
   clear hc hf hcx hfd
   go_wp2_with fail
   ·have hh:(x k).kind=ki∧(x k).name=na:=⟨toList_inj' Zak,toList_inj' (by have h9:((x k).name.toList==na.toList)=true:=Zak;exact eq_of_beq h9)⟩
    have HF2:=hid (fnd_hit HF.out hh)
    have HN:=hid (fnd_keep HF2.out (show k+1≤n by omega))
    clear hh HF HF2
    refine (specOb_any (x k) ah ch _ lo hi Zc hfi (hsx.below (HB.out _ _) hhi)).mono ?_
    rintro e w1 ⟨ah',ch',rfl,hcp,ho1,hb1⟩
    have HCP:=hid hcp
    clear hcp
    have hB1:Below w.1.size w w1:=(HB.out _ _).trans (hb1.mono Zc)
    obtain ⟨A0,A1,F0,F1⟩:=two_cell hb1
    have q0:=A1 0
    have q1:=A1 1
    have q2:=A1 2
    have q3:=A1 3
    have q4:=A1 4
    have q5:=A1 5
    have q6:=A1 6
    have hz:=hb1.size
    simp only [List.getElem?_toArray,List.getElem?_cons_succ,List.getElem?_cons_zero] at q0 q1 q2 q3 q4 q5 q6
    simp only [World.size_alloc] at ho1 hz
    have HO:=hid ho1
    clear A0 A1 F0 hb1 ho1 d0 d1 d2 d3 d4 d5 d6 hsx
    go_wp2
    have e1:fndOb x ki na n=x k:=by unfold fndOb;rw [HN.out]
    have e2:fndIs x ki na n=true:=by unfold fndIs;rw [HN.out];rfl
    rw [e1,e2]
    refine bodyPost_ret (v:=.tuple #[.agg #[.string (x k).kind,.string (x k).name,.int .i64 (x k).ver,.int .i64 (x k).born,.string (x k).text,.bool (x k).ending,.slice ah' (x k).hn ch'],.bool true]) (by simp [results,Tryz.results76,go_sem,q0,q1,q2,q3,q4,q5,q6]) rfl ⟨ah',ch',rfl,HCP.out,?_,?_⟩
    ·simp only [World.size_setCell]
     refine (StrsOwn.fr HO.out (lo2:=w.1.size) (hi2:=w.1.size+2) ?_ Zbt Za).mono Za Zbt
     iterate 7 refine Fr.setCell ?_ Zm Zm _
     exact Fr.refl _ _ _
    ·refine hB1.trans (Fr.below (lo:=w.1.size) (hi:=w.1.size+2) ?_ Zbt hB1.size)
     iterate 7 refine Fr.setCell ?_ Zm Zm _
     exact Fr.refl _ _ _
   ·have hh:¬((x k).kind=ki∧(x k).name=na):=fun e=>by
     have h9:((x k).name.toList==na.toList)=false:=by assumption
     rw [e.2] at h9
     simp at h9
    go_roundw
    case rel=>exact ⟨k+1,Za,by go_num,fnd_miss HF.out hh,by trivial⟩
    case measure=>simp [intOf];omega
   ·have hh:¬((x k).kind=ki∧(x k).name=na):=fun e=>by
     have h9:¬(x k).kind.toList=ki.toList:=by assumption
     exact h9 (by rw [e.1])
    go_roundw
    case rel=>exact ⟨k+1,Za,by go_num,fnd_miss HF.out hh,by trivial⟩
    case measure=>simp [intOf];omega
  ·have:k=n:=Za
   subst this
   have HF:=hid hfd
   clear hc hf hfd
   go_wp2
   have e1:fndOb x ki na k=ob0:=by unfold fndOb;rw [HF.out]
   have e2:fndIs x ki na k=false:=by unfold fndIs;rw [HF.out];rfl
   rw [e1,e2]
   refine bodyPost_ret (v:=.tuple #[.agg #[.string ⟨#[]⟩,.string ⟨#[]⟩,.int .i64 0,.int .i64 0,.string ⟨#[]⟩,.bool false,.slice none 0 0],.bool false]) (by simp [results,Tryz.results76,go_sem]) rfl ⟨none,0,rfl,Nat.le_refl _,?_,?_⟩
   ·intro j hj;exact absurd hj (Nat.not_lt_zero _)
   ·exact HB.out _ _
end Go.Proofs.YtllmmkchokkaaaaGreatDoor
