import Derived.Test.YtllmmkchokkaaaaGreatDoorPk07
import Derived.Maps.OwnSet
import Derived.Maps.OwnOps
import Derived.ProofKit
set_option maxRecDepth 100000
set_option maxHeartbeats 1000000
namespace Go.Proofs.YtllmmkchokkaaaaGreatDoor
open Go.RowKit Go.Maps
theorem Tryz.lawInt:Keyed Tryz.prog 3:=int_keyed Tryz.underlying3
theorem zero95 (w:World):(zeroValue 183).run Tryz.prog w=.ok (.agg #[]) w:=Zf
theorem run_makeMap94 (n:Nat) (w:World):(Instr.makeMap 182 (some (.int .i64 (n:Int)))).run Tryz.prog w=.ok (.map (some w.1.size)) (w.alloc (.map #[] 0)):=by
 simp [Instr.makeMap,run_underlying Tryz.underlying182,asInt,asIntOf,Result.andThen]
def seenB (x:Nat→Ob) (k:Nat) (v:Int):Bool:=!allTo (fun j=>decide (¬(x j).ver=v)) k
def VTold (x:Nat→Ob) (k:Nat) (D:DataW Unit):Prop:=∀ v:Int,(Lit.int .i64 v).wf=true→Maps.has D (.int .i64 v)=seenB x k v
theorem vtold_start (x:Nat→Ob):VTold x 0 (.map []):=fun _ _=>rfl
theorem vtold_put {x:Nat→Ob} {k:Nat} {D:DataW Unit} (h:VTold x k D) (hD:IsMap D) (hw:(Lit.int .i64 (x k).ver).wf=true):VTold x (k+1) (D.put (.int .i64 (x k).ver) (.agg [])):=fun v hv=>by
 by_cases e:(x k).ver=v
 ·subst e
  rw [has_put_same hD (Tryz.lawInt.key (keyOf_int_mk Tryz.underlying3 hw))]
  simp [seenB,allTo]
 ·rw [has_put_other (by intro h9;injection h9 with _ h9;exact e h9.symm),h v hv]
  simp [seenB,allTo,e]
theorem ownsMap_below {w w':World} {P:Program} {k:TypeId} {R:Value→Option (DataW Unit × List MemPlace)} {b n B:Nat} {D:DataW Unit} (h:w.ownsMap P k R b n D) (hb:Below B w w') (hB:b<B):w'.ownsMap P k R b n D:=by
 obtain ⟨es,clock,h1,r⟩:=h
 exact ⟨es,clock,(hb.block b hB).trans h1,r⟩
theorem verDiff_any (now floor:Int) (n:Nat) (x:Nat→Ob) (a1 a2 a3:Option Addr) (c1 n2 c2 n3 c3:Nat) (w:World) (lo hi:Nat) (hhi:hi≤w.1.size) (hl:(n:Int)≤1099511627776) (hf:∀ i,i<n→ObFit (x i)) (hc:ObjsIn w lo hi a1 n x) :
  Calls Tryz.prog 85 #[.agg #[.int .i64 now,.int .i64 floor,.slice a1 n c1,.slice a2 n2 c2,.slice a3 n3 c3]] w fun e w'=>e=.returned (.bool (verDiff n x))∧Below w.1.size w w':=by
 have hmm:=run_makeMap94 n
 go_enter Tryz.func85,Tryz.ntmps85
 go_wp2_with fail
 go_loopw [15] (fun i wr=>∃ (k:Nat) (D:DataW Unit),k≤n∧i=.int .i64 k∧Below w.1.size w wr∧wr.ownsMap Tryz.prog 3 unitElem (w.1.size+1) k D∧VTold x k D∧∀ j,j<k→allTo (fun k'=>decide (¬(x k').ver=(x j).ver)) j=true) (fun i _=>n-(intOf i).toNat)
 case atStart=>
  have h9:=World.ownsMap_made (H:=Unit) (w.alloc (.cells #[.int .i64 now,.int .i64 floor,.slice a1 n c1,.slice a2 n2 c2,.slice a3 n3 c3] 35)) Tryz.prog 3 unitElem
  rw [World.size_alloc] at h9
  exact ⟨0,.map [],Nat.zero_le _,rfl,(below_alloc' _ _).alloc Zd _,h9,vtold_start x,fun j hj=>absurd hj (Nat.not_lt_zero _)⟩
 case round=>
  obtain ⟨k,D,hk,rfl,hb,hown,htold,hall⟩:=hrel
  clear hmm
  by_cases hkn:k<n
  ·obtain ⟨b,off,ah,ch,rfl,hlo,hbh,hcx,_⟩:=hc k hkn
   have hwf:=(hf k hkn).v
   obtain ⟨d0,d1,d2,d3,d4,d5,d6⟩:=hcx.below hb Za
   have hky:=keyOf_int_mk Tryz.underlying3 hwf
   have hhas:=htold _ hwf
   have HT:=hid (vtold_put htold hown.isMap hwf)
   have HOW:=hid hown
   have HA:=hid hall
   clear hc hf hcx htold hown hall
   cases hs:seenB x k (x k).ver with
   | true=>
    have HE:=hid (show verDiff n x=false from allTo_no (p:=fun i=>allTo (fun k=>decide (¬(x k).ver=(x i).ver)) i) hkn (by simpa [seenB] using hs))
    rw [hs] at hhas
    clear hs
    go_wp2_with (at_lookup;go_must (refine wpList_lookup_own_unit _ rfl _ _ 182 rfl 3 183 Tryz.lawInt Tryz.underlying182 (zero95 _) (w.1.size+1) k D rfl (HOW.out.alloc _) _ _ rfl hky ?_))
    go_ret
    exact ⟨ret_bool HE.out.symm,(hb.alloc hb.size _).alloc Zan _⟩
   | false=>
    have HN:=hid (show allTo (fun k'=>decide (¬(x k').ver=(x k).ver)) k=true by simpa [seenB] using hs)
    rw [hs] at hhas
    clear hs
    have hsz:=hb.size
    have hlt:=HOW.out.lt
    go_wp2_with (first|(at_lookup;go_must (refine wpList_lookup_own_unit _ rfl _ _ 182 rfl 3 183 Tryz.lawInt Tryz.underlying182 (zero95 _) (w.1.size+1) k D rfl (HOW.out.alloc _) _ _ rfl hky ?_))|(at_mapUpdate;go_must (refine wpList_mapUpdate_own _ rfl _ _ _ 182 rfl 3 183 Tryz.lawInt Tryz.underlying182 _ (w.1.size+1) k D rfl ((HOW.out.alloc _).alloc _) Zs _ _ _ rfl rfl hky _ [] unitElem_mk ?_;intro w3 hown3 hgrow3)))
    go_roundw
    case rel=>exact ⟨k+1,_,Za,by go_num,((hb.alloc hb.size _).alloc Zc _).grown hgrow3 Zc (fun j hj=>by cases hj;omega),hown3,HT.out,fun j hj=>(by
     rcases Nat.lt_or_ge j k with h3|h3
     ·exact HA.out j h3
     ·have:j=k:=Za
      subst this;exact HN.out)⟩
    case measure=>simp [intOf];omega
  ·have HE:=hid (show verDiff n x=true from allTo_iff.2 (fun i hi=>hall i Za))
   clear hc hf hown htold hall
   go_wp2
   go_ret
   exact ⟨ret_bool HE.out.symm,hb⟩
end Go.Proofs.YtllmmkchokkaaaaGreatDoor
