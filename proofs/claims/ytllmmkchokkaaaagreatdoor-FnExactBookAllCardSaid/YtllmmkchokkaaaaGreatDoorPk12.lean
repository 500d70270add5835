import Derived.Test.YtllmmkchokkaaaaGreatDoorPk08
import Derived.Test.YtllmmkchokkaaaaGreatDoorPk09
import Derived.Test.YtllmmkchokkaaaaGreatDoorPk11
import Derived.Maps.OwnSet
import Derived.Maps.OwnOps
import Derived.ProofKit
set_option maxRecDepth 100000
set_option maxHeartbeats 1000000
namespace Go.Proofs.YtllmmkchokkaaaaGreatDoor
open Go.RowKit Go.Maps
theorem keyOf_any (x:Ob) (ad:Option Addr) (cap:Nat) (w:World) :
  Calls Tryz.prog 139 #[.agg #[.string x.kind,.string x.name,.int .i64 x.ver,.int .i64 x.born,.string x.text,.bool x.ending,.slice ad x.hn cap]] w fun e w'=>e=.returned (.agg #[.string x.kind,.string x.name])∧Below w.1.size w w':=by
 go_enter Tryz.func139,Tryz.ntmps139
 go_wp2
 refine bodyPost_ret (v:=.agg #[.string x.kind,.string x.name]) (by simp [results,Tryz.results139,go_sem]) rfl ⟨rfl,?_⟩
 exact ((below_alloc _ _).alloc Zd _)
theorem Tryz.laidOut:laidOutB Tryz.prog=true:=Zf
theorem Tryz.row139:139<Tryz.prog.types.size:=of_decide_eq_true Zf
theorem Tryz.law139:Keyed Tryz.prog 139:=Keyed.of_law (deep_law_laid Tryz.laidOut (m:=2) Za Tryz.row139 Zf Zf)
theorem Tryz.key139:Tryz.prog.keyType 139=true:=Zf
theorem Tryz.cells139:Tryz.prog.cellsOf 139=2:=Zf
theorem Tryz.cells9:Tryz.prog.cellsOf 9=1:=Zf
def kl (a b:ByteArray):Lit:=.string (keyBytes [.string a.data.toList,.string b.data.toList])
theorem hkey (a b:ByteArray) (ha:a.size≤maxLen) (hb:b.size≤maxLen):keyOf Tryz.prog 139 (.agg #[.string a,.string b])=some (kl a b):=by
 obtain ⟨d,hd⟩:∃ d,Tryz.prog.types.size+1=d+2:=⟨Tryz.prog.types.size-1,by have:=Tryz.row139;omega⟩
 unfold keyOf
 rw [Tryz.underlying139]
 simp only [Tryz.key139,Value.formed,Tryz.underlying139,Tryz.cells139,hd]
 simp [Program.keyLits,Tryz.underlying139,Tryz.underlying9,Tryz.cells139,Tryz.cells9,Value.cells,ha,hb,kl]
theorem kl_ne {a b a' b':ByteArray} (ha:a.size≤maxLen) (hb:b.size≤maxLen) (ha':a'.size≤maxLen) (hb':b'.size≤maxLen) (h:¬(a=a'∧b=b')):kl a b≠kl a' b':=by
 intro e
 have h1:=hkey a b ha hb
 have h2:=hkey a' b' ha' hb'
 rw [←e] at h2
 have:=Tryz.law139.inj h1 h2
 simp at this
 exact h this
theorem zero3 (w:World):(zeroValue 3).run Tryz.prog w=.ok (.int .i64 0) w:=Zf
def fnd (x:Nat→Ob) (a b:ByteArray):Nat→Option Nat
 | 0=>none
 | n+1=>match fnd x a b n with
  | some i=>some i
  | none=>if (x n).kind=a∧(x n).name=b then some n else none
theorem fnd_lt {x:Nat→Ob} {a b:ByteArray} : ∀ {n i:Nat},fnd x a b n=some i→i<n∧(x i).kind=a∧(x i).name=b
 | 0,_,h=>by cases h
 | n+1,i,h=>by
  unfold fnd at h
  split at h
  ·rename_i j hj
   cases h
   have:=fnd_lt hj
   exact ⟨Za,this.2⟩
  ·split at h
   ·rename_i hh
    cases h
    exact ⟨Za,hh⟩
   ·cases h
theorem fnd_some {x:Nat→Ob} {a b:ByteArray} {n i:Nat} (h:fnd x a b n=some i):fnd x a b (n+1)=some i:=by unfold fnd;rw [h]
theorem fnd_hit {x:Nat→Ob} {a b:ByteArray} {n:Nat} (h:fnd x a b n=none) (h2:(x n).kind=a∧(x n).name=b):fnd x a b (n+1)=some n:=by unfold fnd;rw [h];exact if_pos h2
theorem fnd_miss {x:Nat→Ob} {a b:ByteArray} {n:Nat} (h:fnd x a b n=none) (h2:¬((x n).kind=a∧(x n).name=b)):fnd x a b (n+1)=none:=by unfold fnd;rw [h];exact if_neg h2
def Told (x:Nat→Ob) (n:Nat) (D:DataW Unit):Prop:=∀ a b:ByteArray,a.size≤maxLen→b.size≤maxLen →
 (∀ i,fnd x a b n=some i→Maps.has D (kl a b)=true∧D.atKey (kl a b) (.lit (.int .i64 0))=.lit (.int .i64 i))∧(fnd x a b n=none→Maps.has D (kl a b)=false)
theorem told_start (x:Nat→Ob):Told x 0 (.map []):=fun a b _ _=>⟨fun i h=>Zbh,fun _=>rfl⟩
theorem told_same {x:Nat→Ob} {n i:Nat} {D:DataW Unit} (h:Told x n D) (hi:fnd x (x n).kind (x n).name n=some i):Told x (n+1) D:=fun a b ha hb=>by
 obtain ⟨h1,h2⟩:=h a b ha hb
 by_cases hh:(x n).kind=a∧(x n).name=b
 ·obtain ⟨rfl,rfl⟩:=hh
  refine ⟨fun j hj=>?_,fun hj=>?_⟩
  ·rw [fnd_some hi] at hj;cases hj;exact h1 _ hi
  ·rw [fnd_some hi] at hj;cases hj
 ·cases hc:fnd x a b n with
  | none=>exact ⟨fun j hj=>(by rw [fnd_miss hc hh] at hj;cases hj),fun _=>h2 hc⟩
  | some m=>exact ⟨fun j hj=>(by rw [fnd_some hc] at hj;cases hj;exact h1 _ hc),fun hj=>(by rw [fnd_some hc] at hj;cases hj)⟩
theorem kl_key (a b:ByteArray) (ha:a.size≤maxLen) (hb:b.size≤maxLen):WideAt.IsKeyLit (kl a b):=Tryz.law139.key (hkey a b ha hb)
theorem told_put {x:Nat→Ob} {n:Nat} {D:DataW Unit} (h:Told x n D) (hD:IsMap D) (hi:fnd x (x n).kind (x n).name n=none) (hk:(x n).kind.size≤maxLen) (hn:(x n).name.size≤maxLen):Told x (n+1) (D.put (kl (x n).kind (x n).name) (.lit (.int .i64 n))):=fun a b ha hb=>by
 obtain ⟨h1,h2⟩:=h a b ha hb
 by_cases hh:(x n).kind=a∧(x n).name=b
 ·obtain ⟨rfl,rfl⟩:=hh
  refine ⟨fun j hj=>?_,fun hj=>?_⟩
  ·rw [fnd_hit hi ⟨rfl,rfl⟩] at hj
   cases hj
   exact ⟨has_put_same hD (kl_key _ _ hk hn) _,atKey_put_same hD (kl_key _ _ hk hn) _ _⟩
  ·rw [fnd_hit hi ⟨rfl,rfl⟩] at hj;cases hj
 ·have hne:kl a b≠kl (x n).kind (x n).name:=kl_ne ha hb hk hn (fun e=>hh ⟨e.1.symm,e.2.symm⟩)
  rw [has_put_other hne,atKey_put_other hne]
  cases hc:fnd x a b n with
  | none=>exact ⟨fun j hj=>(by rw [fnd_miss hc hh] at hj;cases hj),fun _=>h2 hc⟩
  | some m=>exact ⟨fun j hj=>(by rw [fnd_some hc] at hj;cases hj;exact h1 _ hc),fun hj=>(by rw [fnd_some hc] at hj;cases hj)⟩
theorem run_makeMap_hint (n:Nat) (w:World):(Instr.makeMap 186 (some (.int .i64 (n:Int)))).run Tryz.prog w=.ok (.map (some w.1.size)) (w.alloc (.map #[] 0)):=by
 simp [Instr.makeMap,run_underlying Tryz.underlying186,asInt,asIntOf,Result.andThen]
theorem places_any (n:Nat) (x:Nat→Ob) (ad:Option Addr) (cap:Nat) (w:World) (lo hi:Nat) (hhi:hi≤w.1.size) (hl:(n:Int)≤1099511627776) (hf:∀ i,i<n→ObFit (x i)) (hc:ObjsIn w lo hi ad n x) :
  Calls Tryz.prog 144 #[.slice ad n cap] w fun e w'=>∃ D:DataW Unit,e=.returned (.map (some w.1.size))∧w'.ownsMap Tryz.prog 139 (plainElem Tryz.prog 3) w.1.size n D∧Told x n D∧Below w.1.size w w':=by
 have hmm:=run_makeMap_hint n w
 go_enter Tryz.func144,Tryz.ntmps144
 go_wp2_with fail
 go_loopw [13] (fun i wr=>∃ (k:Nat) (D:DataW Unit),k≤n∧i=.int .i64 k∧Below w.1.size w wr∧wr.ownsMap Tryz.prog 139 (plainElem Tryz.prog 3) w.1.size k D∧Told x k D) (fun i _=>n-(intOf i).toNat)
 case atStart=>exact ⟨0,.map [],Nat.zero_le _,rfl,below_alloc _ _,World.ownsMap_made _ _ _ _,told_start x⟩
 case round=>
  obtain ⟨k,D,hk,rfl,hb,hown,htold⟩:=hrel
  clear hmm
  by_cases hkn:k<n
  ·obtain ⟨b,off,ah,ch,rfl,hlo,hbh,hcx,hsx⟩:=hc k hkn
   obtain ⟨fk,fn,_,_,_⟩:=hf k hkn
   have hsk:(x k).kind.size≤maxLen:=by unfold maxLen;omega
   have hsn:(x k).name.size≤maxLen:=by unfold maxLen;omega
   obtain ⟨d0,d1,d2,d3,d4,d5,d6⟩:=hcx.below hb Za
   clear hc hf hcx hsx
   have hky:=hkey (x k).kind (x k).name hsk hsn
   cases hfd:fnd x (x k).kind (x k).name k with
   | none=>
    have hhas:=(htold _ _ hsk hsn).2 hfd
    have HT:=hid (told_put htold hown.isMap hfd hsk hsn)
    have HOW:=hid hown
    clear hfd htold hown
    go_wp2_with fail
    refine (keyOf_any (x k) ah ch _).mono ?_
    rintro e w1 ⟨rfl,hb1⟩
    have hown1:=hid (ownsMap_below (HOW.out.alloc _) hb1 (by simp;have:=HOW.out.lt;omega))
    have hB1:=(hb.alloc hb.size (.cells #[.string (x k).kind,.string (x k).name,.int .i64 (x k).ver,.int .i64 (x k).born,.string (x k).text,.bool (x k).ending,.slice ah (x k).hn ch] 118)).trans (hb1.mono Zan)
    have p0:=box_cell hb1 0
    have p1:=box_cell hb1 1
    have p2:=box_cell hb1 2
    have p3:=box_cell hb1 3
    have p4:=box_cell hb1 4
    have p5:=box_cell hb1 5
    have p6:=box_cell hb1 6
    simp only [List.getElem?_toArray,List.getElem?_cons_succ,List.getElem?_cons_zero] at p0 p1 p2 p3 p4 p5 p6
    clear hb1 d0 d1 d2 d3 d4 d5 d6 HOW
    go_wp2_with (at_lookup;go_must (refine wpList_lookup_own_ok_int _ rfl _ _ 186 rfl 139 3 .i64 Tryz.law139 Tryz.underlying186 Tryz.underlying3 (zero3 _) w.1.size k D rfl hown1.out _ _ rfl hky ?_;intro c hat hwc))
    refine (keyOf_any (x k) ah ch _).mono ?_
    rintro e w2 ⟨rfl,hb2⟩
    have hown2:=hid (ownsMap_below hown1.out hb2 hown1.out.lt)
    have hB2:=hB1.trans (hb2.mono hB1.size)
    clear hb2 p0 p1 p2 p3 p4 p5 p6 hat hwc hown1
    go_wp2_with (at_mapUpdate;go_must (refine wpList_mapUpdate_own _ rfl _ _ _ 186 rfl 139 3 Tryz.law139 Tryz.underlying186 _ w.1.size k D rfl hown2.out Zs _ _ _ rfl rfl hky _ [] (plainElem_int Tryz.underlying3 (WalkArith.wf_i64 Za)) ?_;intro w3 hown3 hgrow3))
    go_roundw
    case rel=>exact ⟨k+1,_,Za,by go_num,hB2.grown hgrow3 hB2.size (fun j hj=>by cases hj;exact Nat.le_refl _),hown3,HT.out⟩
    case measure=>simp [intOf];omega
   | some i=>
    have hhas:=((htold _ _ hsk hsn).1 i hfd).1
    have HT:=hid (told_same htold hfd)
    have HOW:=hid hown
    clear hfd htold hown
    go_wp2_with fail
    refine (keyOf_any (x k) ah ch _).mono ?_
    rintro e w1 ⟨rfl,hb1⟩
    have hown1:=hid (ownsMap_below (HOW.out.alloc _) hb1 (by simp;have:=HOW.out.lt;omega))
    have hB1:=(hb.alloc hb.size (.cells #[.string (x k).kind,.string (x k).name,.int .i64 (x k).ver,.int .i64 (x k).born,.string (x k).text,.bool (x k).ending,.slice ah (x k).hn ch] 118)).trans (hb1.mono Zan)
    have p0:=box_cell hb1 0
    have p1:=box_cell hb1 1
    have p2:=box_cell hb1 2
    have p3:=box_cell hb1 3
    have p4:=box_cell hb1 4
    have p5:=box_cell hb1 5
    have p6:=box_cell hb1 6
    simp only [List.getElem?_toArray,List.getElem?_cons_succ,List.getElem?_cons_zero] at p0 p1 p2 p3 p4 p5 p6
    clear hb1 d0 d1 d2 d3 d4 d5 d6 HOW
    clear p0 p1 p2 p3 p4 p5 p6
    go_wp2_with (at_lookup;go_must (refine wpList_lookup_own_ok_int _ rfl _ _ 186 rfl 139 3 .i64 Tryz.law139 Tryz.underlying186 Tryz.underlying3 (zero3 _) w.1.size k D rfl hown1.out _ _ rfl hky ?_;intro c hat hwc))
    go_roundw
    case rel=>exact ⟨k+1,D,Za,by go_num,hB1,hown1.out.mono Za,HT.out⟩
    case measure=>simp [intOf];omega
  ·have:k=n:=Za
   subst this
   have HR:=hid (And.intro hown htold)
   clear hc hf hown htold
   go_wp2
   go_ret
   exact ⟨D,rfl,HR.out.1,HR.out.2,hb⟩
end Go.Proofs.YtllmmkchokkaaaaGreatDoor
