import Derived.Test.YtllmmkchokkaaaaGreatDoorPk27
import Derived.Test.YtllmmkchokkaaaaGreatDoorPk28
set_option maxRecDepth 100000
namespace Go.Proofs.YtllmmkchokkaaaaGreatDoor
open Go.RowKit Go.Maps
def bk0:Bk:=⟨0,0,0,fun _=>ob0,0,fun _=>⟨0,false,ob0⟩,0,fun _=>⟨⟨#[]⟩,0,⟨#[]⟩,0,0⟩⟩
theorem bkAt0 (w:World) (p:Pl):BkAt w bk0 p:=
 ⟨⟨fun h=>absurd h (Nat.lt_irrefl _),fun h=>absurd h (Nat.lt_irrefl _),fun i hi=>absurd hi (Nat.not_lt_zero _),fun i hi=>absurd hi (Nat.not_lt_zero _),⟨fun i hi=>absurd hi (Nat.not_lt_zero _),fun i j hi=>absurd hi (Nat.not_lt_zero _)⟩⟩,
  ⟨fun h=>absurd h (Nat.lt_irrefl _),fun h=>absurd h (Nat.lt_irrefl _),fun i hi=>absurd hi (Nat.not_lt_zero _),fun i hi=>absurd hi (Nat.not_lt_zero _),⟨fun i hi=>absurd hi (Nat.not_lt_zero _),fun i j hi=>absurd hi (Nat.not_lt_zero _)⟩⟩,
  ⟨fun h=>absurd h (Nat.lt_irrefl _),fun h=>absurd h (Nat.lt_irrefl _)⟩,
  fun k h=>Zbk,fun k h=>Zbk,fun k h=>Zbk⟩
theorem blkB0 {p:Pl} {k:Nat} (h:blkB p bk0 k):False:=by
 rcases h with (⟨h,_⟩|⟨i,hi,_⟩)|(⟨h,_⟩|⟨i,hi,_⟩)|⟨h,_⟩<;>exact absurd ‹_› (Nat.not_lt_zero _)
theorem op_range {v:Wr} (h:wrB v=true):v.op=1∨v.op=2∨v.op=3∨v.op=4∨v.op=5:=by
 unfold wrB at h
 rw [Bool.and_eq_true] at h
 have h2:=h.2
 unfold useB at h2
 split at h2
 ·exact Or.inl ‹_›
 ·split at h2
  ·exact Or.inr (Or.inl ‹_›)
  ·split at h2
   ·exact Or.inr (Or.inr (Or.inl ‹_›))
   ·split at h2
    ·exact Or.inr (Or.inr (Or.inr (Or.inl ‹_›)))
    ·split at h2
     ·exact Or.inr (Or.inr (Or.inr (Or.inr ‹_›)))
     ·cases h2
theorem into_any (K g:Nat) (B:Bk) (v:Wr) (L:List EO) (a1:Option Addr) (c1:Nat) (k1 k3 k4:Value) (Pst:EO→World→World→Prop) (w:World) (hin:WS w K g B v L a1 c1 k1 k3 k4)
  (hP:∀ D X E,Below w.1.size w X→DkIn X D K g B v L a1 c1 (plW B v) (foB B v)→w.1.size≤D→EOk B v L w X E→wCode B v=0→Calls Tryz.prog 102 #[.pointer (some ⟨D,0,none⟩),obV E] X fun e w'=>e=.returned (.tuple #[])∧Pst E X w') :
  Calls Tryz.prog 43 #[.pointer (some ⟨K,0,none⟩),.agg #[.int .i64 v.op,.string v.kind,.string v.name,.int .i64 v.seen,.string v.text,.string v.hold]] w (IntoP B v L Pst w):=by
 rcases op_range hin.ok.wr with h|h|h|h|h
 ·exact into_1 K g B v L a1 c1 k1 k3 k4 Pst w hin h hP
 ·exact into_2 K g B v L a1 c1 k1 k3 k4 Pst w hin h hP
 ·exact into_3 K g B v L a1 c1 k1 k3 k4 Pst w hin h hP
 ·exact into_4 K g B v L a1 c1 k1 k3 k4 Pst w hin h hP
 ·exact into_5 K g B v L a1 c1 k1 k3 k4 Pst w hin h hP
end Go.Proofs.YtllmmkchokkaaaaGreatDoor
