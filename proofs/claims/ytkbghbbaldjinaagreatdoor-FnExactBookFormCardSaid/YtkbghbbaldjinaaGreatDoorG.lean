import Derived.Test.YtkbghbbaldjinaaGreatDoorE
namespace Go.Proofs.YtkbghbbaldjinaaGreatDoor
open Go.RowKit
theorem Tryz.info46 : (Tryz.prog.info? 46).map (fun i => (i.zero, i.size, i.bytes)) = some (some (.agg #[.string ByteArray.empty, .string ByteArray.empty, .int .i64 0, .int .i64 0, .string ByteArray.empty, .bool false, .slice none 0 0]), 7, 96) := by kernel_rfl
/-- block g has cells 0 .. m, none of them frozen -/
structure Room (w : World) (g m : Nat) : Prop where
  has : ∀ j, j < m → ∃ u, w.cell? ⟨g, j, none⟩ = some u
  free : ∀ j, w.frozen? ⟨g, j, none⟩ = false
  lt : g < w.heap.size
theorem room_made {w' : World} {g n sz : Nat} {base : Nat} {e : TypeId} {xs : List Value}
    (ho : w'.ownsRow base e sz (.slice (some ⟨g, 0, none⟩) n n) n xs) : Room w' g (n * sz) := by
  refine ⟨fun j hj => ?_, fun j => ho.frozenAt j, ?_⟩
  · rw [ho.cellAt j hj]
    have : j < xs.length := by rw [ho.1]; omega
    exact ⟨xs[j], by simp [this]⟩
  · rcases ho.2 with ⟨h, _⟩ | ⟨g', cap, cur, h, _, hh, _⟩
    · simp at h
    · simp only [Value.slice.injEq, Option.some.injEq, Addr.mk.injEq, and_true, true_and] at h
      obtain ⟨rfl, rfl⟩ := h
      exact (Array.getElem?_eq_some_iff.1 hh).1
theorem Room.below {w w' : World} {g m B : Nat} (h : Room w g m) (hb : Below B w w') (hg : g < B) : Room w' g m := by
  refine ⟨fun j hj => ?_, fun j => (hb.frozen (p := ⟨g, j, none⟩) hg).trans (h.free j), Nat.lt_of_lt_of_le h.lt hb.size⟩
  obtain ⟨u, hu⟩ := h.has j hj
  exact ⟨u, (hb.cell (p := ⟨g, j, none⟩) hg).trans hu⟩
theorem size_setCells (b : Nat) : ∀ (vs : List Value) (o : Nat) (w : World), (w.setCells b o vs).heap.size = w.heap.size
  | [], _, _ => rfl
  | v :: r, o, w => by rw [World.setCells, size_setCells b r, World.size_setCell]
theorem Room.setCells {w : World} {g m o : Nat} (h : Room w g m) (vs : List Value) (ho : o + vs.length ≤ m) : Room (w.setCells g o vs) g m := by
  refine ⟨fun j hj => ?_, fun j => by rw [World.frozen?_setCells]; exact h.free j, by rw [size_setCells]; exact h.lt⟩
  by_cases hj2 : j < o ∨ o + vs.length ≤ j
  · rw [World.cell?_setCells_out g vs o w _ (fun _ _ => hj2)]
    exact h.has j hj
  · obtain ⟨i, rfl⟩ : ∃ i, j = o + i := ⟨j - o, by omega⟩
    have hi : i < vs.length := by omega
    exact ⟨vs[i], World.cell?_setCells_in g vs o w (fun j hj => by
      obtain ⟨u, hu⟩ := h.has (o + j) (by omega)
      rw [hu]; rfl) i hi⟩
theorem fr_setCells (b : Nat) : ∀ (vs : List Value) (o : Nat) (w : World), Fr b (b + 1) w (w.setCells b o vs)
  | [], _, w => Fr.refl _ _ w
  | v :: r, o, w => ((Fr.refl b (b+1) w).setCell (p := ⟨b, o, none⟩) (Nat.le_refl _) (Nat.lt_succ_self _) v).trans (fr_setCells b r (o+1) _)
/-- the n objects of block g, their holds in blocks behind it, one behind the other -/
structure ObjsOwnAt (w : World) (g hi n m : Nat) (x : Nat → Ob) (r : Nat → Nat) : Prop where
  room : Room w g (m * 7)
  r0 : g < r 0
  mono : ∀ i, i < n → r i ≤ r (i + 1)
  rn : r n ≤ hi
  hi : hi ≤ w.heap.size
  at_ : ∀ i, i < n → ∃ ah ch, ObCells w g (i * 7) (x i) ah ch ∧ StrsOwn w (r i) (r (i + 1)) ah (x i).hn (x i).hs
theorem r_mono {r : Nat → Nat} {n : Nat} (h : ∀ i, i < n → r i ≤ r (i + 1)) : ∀ {i j : Nat}, i ≤ j → j ≤ n → r i ≤ r j := by
  intro i j hij hj
  induction j with
  | zero => have : i = 0 := by omega
            subst this; exact Nat.le_refl _
  | succ j ih => rcases Nat.lt_or_ge j i with h1 | h1
                 · have : i = j + 1 := by omega
                   subst this; exact Nat.le_refl _
                 · exact Nat.le_trans (ih h1 (by omega)) (h j (by omega))
theorem ObCells.fr {w w' : World} {b o : Nat} {x : Ob} {ad : Option Addr} {cap : Nat} (h : ObCells w b o x ad cap) (e : ∀ j, j < 7 → w'.cell? ⟨b, o + j, none⟩ = w.cell? ⟨b, o + j, none⟩) : ObCells w' b o x ad cap :=
  ⟨(e 0 (by omega)).trans h.c0, (e 1 (by omega)).trans h.c1, (e 2 (by omega)).trans h.c2, (e 3 (by omega)).trans h.c3, (e 4 (by omega)).trans h.c4, (e 5 (by omega)).trans h.c5, (e 6 (by omega)).trans h.c6⟩
theorem ObjsOwnAt.step {wr w1 : World} {g k n : Nat} {x : Nat → Ob} {r : Nat → Nat} (h : ObjsOwnAt wr g wr.heap.size k n x r) (hk : k < n) (hb : Below wr.heap.size wr w1) {ah : Option Addr} {ch : Nat}
    (hs : StrsOwn w1 wr.heap.size w1.heap.size ah (x k).hn (x k).hs) :
    ∃ r', ObjsOwnAt (w1.setCells g (k * 7) [.string (x k).kind, .string (x k).name, .int .i64 (x k).ver, .int .i64 (x k).born, .string (x k).text, .bool (x k).ending, .slice ah (x k).hn ch]) g (w1.setCells g (k * 7) [.string (x k).kind, .string (x k).name, .int .i64 (x k).ver, .int .i64 (x k).born, .string (x k).text, .bool (x k).ending, .slice ah (x k).hn ch]).heap.size (k + 1) n x r' := by
  have hg := h.room.lt
  have hR := h.room.below hb hg
  generalize hvs : [Value.string (x k).kind, .string (x k).name, .int .i64 (x k).ver, .int .i64 (x k).born, .string (x k).text, .bool (x k).ending, .slice ah (x k).hn ch] = vs
  have hlen : vs.length = 7 := by rw [← hvs]; rfl
  have hF := fr_setCells g vs (k * 7) w1
  have hin := World.cell?_setCells_in g vs (k * 7) w1 (fun j hj => by
    obtain ⟨u, hu⟩ := hR.has (k * 7 + j) (by omega)
    rw [hu]; rfl)
  refine ⟨fun i => if i ≤ k then r i else w1.heap.size, hR.setCells vs (by omega), by simpa using h.r0, fun i hi => ?_, ?_, Nat.le_refl _, fun i hi => ?_⟩
  · by_cases e : i < k
    · rw [if_pos (by omega), if_pos (by omega)]; exact h.mono i e
    · have : i = k := by omega
      subst this
      rw [if_pos (by omega), if_neg (by omega)]; exact Nat.le_trans h.rn hb.size
  · rw [if_neg (by omega), size_setCells]; exact Nat.le_refl _
  · by_cases e : i < k
    · obtain ⟨ah', ch', c, s⟩ := h.at_ i e
      refine ⟨ah', ch', ?_, ?_⟩
      · refine (c.below hb hg).fr (fun j hj => ?_)
        exact World.cell?_setCells_out g vs (k * 7) w1 _ (fun _ _ => Or.inl (by show i * 7 + j < k * 7; omega))
      · rw [if_pos (by omega), if_pos (by omega)]
        have h1 : r (i + 1) ≤ wr.heap.size := Nat.le_trans (r_mono h.mono (by omega) (Nat.le_refl _)) h.rn
        have h2 : g < r i := Nat.lt_of_lt_of_le h.r0 (r_mono h.mono (Nat.zero_le _) (by omega))
        exact (s.fr (Fr.of_below (lo := 0) (hi := 0) hb) h1 (Or.inr (Nat.zero_le _))).fr hF (Nat.le_trans h1 hb.size) (Or.inr (by omega))
    · have : i = k := by omega
      subst this
      refine ⟨ah, ch, ?_, ?_⟩
      · have f := fun j (hj : j < 7) => hin j (by omega)
        have f0 := f 0 (by omega); have f1 := f 1 (by omega); have f2 := f 2 (by omega); have f3 := f 3 (by omega); have f4 := f 4 (by omega); have f5 := f 5 (by omega); have f6 := f 6 (by omega)
        subst hvs
        exact ⟨f0, f1, f2, f3, f4, f5, f6⟩
      · rw [if_pos (by omega), if_neg (by omega)]
        exact (hs.fr hF (Nat.le_refl _) (Or.inr (by omega))).mono h.rn (Nat.le_refl _)
theorem ObjsOwnAt.start {w1 : World} {g n : Nat} (x : Nat → Ob) (h : Room w1 g (n * 7)) : ObjsOwnAt w1 g w1.heap.size 0 n x (fun _ => g + 1) :=
  ⟨h, Nat.lt_succ_self _, fun _ h => absurd h (Nat.not_lt_zero _), h.lt, Nat.le_refl _, fun _ h => absurd h (Nat.not_lt_zero _)⟩
set_option maxRecDepth 100000 in
set_option maxHeartbeats 400000 in
theorem toObs_any (n : Nat) (x : Nat → Ob) (ad : Option Addr) (cap : Nat) (w : World) (lo hi : Nat) (hhi : hi ≤ w.heap.size) (hl : (n : Int) ≤ 1099511627776) (hf : ∀ i, i < n → ObFit (x i)) (hc : ObjsIn w lo hi ad n x) :
    Calls Tryz.prog 16 #[.slice ad n cap] w fun e w' => ∃ cap' r, e = .returned (.slice (some ⟨w.heap.size, 0, none⟩) n cap') ∧ ObjsOwnAt w' w.heap.size w'.heap.size n n x r ∧ Below w.heap.size w w' := by
  obtain ⟨i0, hi0, hz0, hz1, hz2⟩ := info_parts Tryz.info46
  go_enter Tryz.func16, Tryz.ntmps16
  go_wp2_with (first
    | (at_make; refine wpList_make_full _ rfl _ _ 29 rfl w.heap.size 46 i0 _ 7 Tryz.underlying29 hi0 hz0 hz1 .i64 .i64 _ _ n rfl rfl (by omega) (by omega) (by rw [hz2]; omega) (by unfold maxLen; omega) (by omega) ?_; intro w1 hown1 hgrow1)
    )
  have r1 := ObjsOwnAt.start x (room_made hown1)
  have hb1 : Below w.heap.size w w1 := (Below.refl _ _).grown hgrow1 (Nat.le_refl _) (by simp)
  clear hown1 hgrow1 hi0 hz0 hz1 hz2
  go_loopw [4] (fun i wr => ∃ k : Nat, k ≤ n ∧ i = .int .i64 k ∧ Below w.heap.size w wr ∧ ∃ r, ObjsOwnAt wr w.heap.size wr.heap.size k n x r) (fun i _ => n - (intOf i).toNat)
  case atStart => exact ⟨0, Nat.zero_le _, rfl, hb1, _, r1⟩
  case round =>
    obtain ⟨k, hk, rfl, hb, r, ho⟩ := hrel
    clear r1 hb1
    by_cases hkn : k < n
    · obtain ⟨b, off, ah, ch, rfl, hlo, hbh, hcx, hsx⟩ := hc k hkn
      have hfk := (hf k hkn).h
      obtain ⟨d0, d1, d2, d3, d4, d5, d6⟩ := hcx.below hb (by omega)
      have hsx' := hsx.below hb hhi
      clear hc hf hcx hsx
      have HO := hid ho
      have hrm := ho.room
      clear ho
      go_wp2_with (fail)
      refine (toOb_any (x k) ah ch wr lo hi (Nat.le_trans hhi hb.size) hfk hsx').mono ?_
      rintro e w1 ⟨ah', ch', rfl, hown, hb1⟩
      obtain ⟨r', R⟩ := HO.out.step hkn hb1 (ch := ch') hown
      have HR := hid R
      have HB := hid ((hb.trans (hb1.mono hb.size)).trans ((fr_setCells w.heap.size [Value.string (x k).kind, .string (x k).name, .int .i64 (x k).ver, .int .i64 (x k).born, .string (x k).text, .bool (x k).ending, .slice ah' (x k).hn ch'] (k * 7) w1).below (Nat.le_refl _) (hb.trans (hb1.mono hb.size)).size))
      have hrm1 := hrm.below hb1 hrm.lt
      obtain ⟨_, q0⟩ := hrm1.has (k * 7) (by omega)
      obtain ⟨_, q1⟩ := hrm1.has (k * 7 + 1) (by omega)
      obtain ⟨_, q2⟩ := hrm1.has (k * 7 + 2) (by omega)
      obtain ⟨_, q3⟩ := hrm1.has (k * 7 + 3) (by omega)
      obtain ⟨_, q4⟩ := hrm1.has (k * 7 + 4) (by omega)
      obtain ⟨_, q5⟩ := hrm1.has (k * 7 + 5) (by omega)
      obtain ⟨_, q6⟩ := hrm1.has (k * 7 + 6) (by omega)
      have qf := hrm1.free
      clear hrm hrm1 R HO d0 d1 d2 d3 d4 d5 d6 hsx' hown
      go_wp2
      go_roundw
      case rel => exact ⟨k + 1, by omega, by go_num, HB.out, r', HR.out⟩
      case measure => simp [intOf]; omega
    · have : k = n := by omega
      subst this
      have HO := hid ho
      clear hc hf ho
      go_wp2
      go_ret
      exact ⟨_, r, rfl, HO.out, hb⟩
end Go.Proofs.YtkbghbbaldjinaaGreatDoor
namespace Go.Proofs.YtkbghbbaldjinaaGreatDoor
open Go.RowKit
theorem Tryz.info48 : (Tryz.prog.info? 48).map (fun i => (i.zero, i.size, i.bytes)) = some (some (.agg #[.int .i64 0, .bool false, .string ByteArray.empty, .string ByteArray.empty, .int .i64 0, .int .i64 0, .string ByteArray.empty, .bool false, .slice none 0 0]), 9, 112) := by kernel_rfl
set_option maxRecDepth 100000 in
set_option maxHeartbeats 400000 in
theorem toCh_any (x : Ch) (ad : Option Addr) (cap : Nat) (w : World) (lo hi : Nat) (hhi : hi ≤ w.heap.size) (hl : (x.ob.hn : Int) ≤ 8796093022208) (hc : StrsIn w lo hi ad x.ob.hn x.ob.hs) :
    Calls Tryz.prog 38 #[.agg #[.int .i64 x.ver, .bool x.gone, .string x.ob.kind, .string x.ob.name, .int .i64 x.ob.ver, .int .i64 x.ob.born, .string x.ob.text, .bool x.ob.ending, .slice ad x.ob.hn cap]] w fun e w' => ∃ ad' cap', e = .returned (.agg #[.int .i64 x.ver, .bool x.gone, .string x.ob.kind, .string x.ob.name, .int .i64 x.ob.ver, .int .i64 x.ob.born, .string x.ob.text, .bool x.ob.ending, .slice ad' x.ob.hn cap']) ∧ StrsOwn w' w.heap.size w'.heap.size ad' x.ob.hn x.ob.hs ∧ Below w.heap.size w w' := by
  go_enter Tryz.func38, Tryz.ntmps38
  go_wp2_with fail
  refine (toOb_any x.ob ad cap _ lo hi (by simp; omega) hl (hc.below (B := w.heap.size) ((((Below.refl _ _).alloc (Nat.le_refl _) _).alloc (by simp) _).alloc (by simp; omega) _) hhi)).mono ?_
  rintro e w1 ⟨ad', cap', rfl, hown, hb1⟩
  have hbW : Below w.heap.size w w1 := ((((Below.refl _ _).alloc (Nat.le_refl _) _).alloc (by simp) _).alloc (by simp; omega) _).trans (hb1.mono (by simp; omega))
  have hz : w.heap.size + 2 < w1.heap.size := by have := hb1.size; simp at this; omega
  obtain ⟨hcc, hff⟩ := bcell hb1
  simp only [World.size_alloc] at hcc hff hown
  clear hb1 hc
  go_wp2
  refine bodyPost_ret (v := .agg #[.int .i64 x.ver, .bool x.gone, .string x.ob.kind, .string x.ob.name, .int .i64 x.ob.ver, .int .i64 x.ob.born, .string x.ob.text, .bool x.ob.ending, .slice ad' x.ob.hn cap']) (by simp [results, Tryz.results38, go_sem, hcc]) rfl ⟨ad', cap', rfl, ?_, ?_⟩
  · simp only [World.size_setCell]
    refine (StrsOwn.fr hown (lo2 := w.heap.size) (hi2 := w.heap.size + 3) ?_ (Nat.le_refl _) (by omega)).mono (by omega) (Nat.le_refl _)
    iterate 16 refine Fr.setCell ?_ (by simp; try omega) (by simp; try omega) _
    exact Fr.refl _ _ _
  · refine hbW.trans (Fr.below (lo := w.heap.size) (hi := w.heap.size + 3) ?_ (Nat.le_refl _) hbW.size)
    iterate 16 refine Fr.setCell ?_ (by simp; try omega) (by simp; try omega) _
    exact Fr.refl _ _ _
/-- the n objects of block g, their holds in blocks behind it, one behind the other -/
structure ChgsOwnAt (w : World) (g hi n m : Nat) (x : Nat → Ch) (r : Nat → Nat) : Prop where
  room : Room w g (m * 9)
  r0 : g < r 0
  mono : ∀ i, i < n → r i ≤ r (i + 1)
  rn : r n ≤ hi
  hi : hi ≤ w.heap.size
  at_ : ∀ i, i < n → ∃ ah ch, ChCells w g (i * 9) (x i) ah ch ∧ StrsOwn w (r i) (r (i + 1)) ah (x i).ob.hn (x i).ob.hs
theorem ChCells.fr {w w' : World} {b o : Nat} {x : Ch} {ad : Option Addr} {cap : Nat} (h : ChCells w b o x ad cap) (e : ∀ j, j < 9 → w'.cell? ⟨b, o + j, none⟩ = w.cell? ⟨b, o + j, none⟩) : ChCells w' b o x ad cap :=
  ⟨(e 0 (by omega)).trans h.c0, (e 1 (by omega)).trans h.c1, (e 2 (by omega)).trans h.c2, (e 3 (by omega)).trans h.c3, (e 4 (by omega)).trans h.c4, (e 5 (by omega)).trans h.c5, (e 6 (by omega)).trans h.c6, (e 7 (by omega)).trans h.c7, (e 8 (by omega)).trans h.c8⟩
theorem ChgsOwnAt.step {wr w1 : World} {g k n : Nat} {x : Nat → Ch} {r : Nat → Nat} (h : ChgsOwnAt wr g wr.heap.size k n x r) (hk : k < n) (hb : Below wr.heap.size wr w1) {ah : Option Addr} {ch : Nat}
    (hs : StrsOwn w1 wr.heap.size w1.heap.size ah (x k).ob.hn (x k).ob.hs) :
    ∃ r', ChgsOwnAt (w1.setCells g (k * 9) [.int .i64 (x k).ver, .bool (x k).gone, .string (x k).ob.kind, .string (x k).ob.name, .int .i64 (x k).ob.ver, .int .i64 (x k).ob.born, .string (x k).ob.text, .bool (x k).ob.ending, .slice ah (x k).ob.hn ch]) g (w1.setCells g (k * 9) [.int .i64 (x k).ver, .bool (x k).gone, .string (x k).ob.kind, .string (x k).ob.name, .int .i64 (x k).ob.ver, .int .i64 (x k).ob.born, .string (x k).ob.text, .bool (x k).ob.ending, .slice ah (x k).ob.hn ch]).heap.size (k + 1) n x r' := by
  have hg := h.room.lt
  have hR := h.room.below hb hg
  generalize hvs : [Value.int .i64 (x k).ver, .bool (x k).gone, .string (x k).ob.kind, .string (x k).ob.name, .int .i64 (x k).ob.ver, .int .i64 (x k).ob.born, .string (x k).ob.text, .bool (x k).ob.ending, .slice ah (x k).ob.hn ch] = vs
  have hlen : vs.length = 9 := by rw [← hvs]; rfl
  have hF := fr_setCells g vs (k * 9) w1
  have hin := World.cell?_setCells_in g vs (k * 9) w1 (fun j hj => by
    obtain ⟨u, hu⟩ := hR.has (k * 9 + j) (by omega)
    rw [hu]; rfl)
  refine ⟨fun i => if i ≤ k then r i else w1.heap.size, hR.setCells vs (by omega), by simpa using h.r0, fun i hi => ?_, ?_, Nat.le_refl _, fun i hi => ?_⟩
  · by_cases e : i < k
    · rw [if_pos (by omega), if_pos (by omega)]; exact h.mono i e
    · have : i = k := by omega
      subst this
      rw [if_pos (by omega), if_neg (by omega)]; exact Nat.le_trans h.rn hb.size
  · rw [if_neg (by omega), size_setCells]; exact Nat.le_refl _
  · by_cases e : i < k
    · obtain ⟨ah', ch', c, s⟩ := h.at_ i e
      refine ⟨ah', ch', ?_, ?_⟩
      · refine (c.below hb hg).fr (fun j hj => ?_)
        exact World.cell?_setCells_out g vs (k * 9) w1 _ (fun _ _ => Or.inl (by show i * 9 + j < k * 9; omega))
      · rw [if_pos (by omega), if_pos (by omega)]
        have h1 : r (i + 1) ≤ wr.heap.size := Nat.le_trans (r_mono h.mono (by omega) (Nat.le_refl _)) h.rn
        have h2 : g < r i := Nat.lt_of_lt_of_le h.r0 (r_mono h.mono (Nat.zero_le _) (by omega))
        exact (s.fr (Fr.of_below (lo := 0) (hi := 0) hb) h1 (Or.inr (Nat.zero_le _))).fr hF (Nat.le_trans h1 hb.size) (Or.inr (by omega))
    · have : i = k := by omega
      subst this
      refine ⟨ah, ch, ?_, ?_⟩
      · have f := fun j (hj : j < 9) => hin j (by omega)
        have f0 := f 0 (by omega); have f1 := f 1 (by omega); have f2 := f 2 (by omega); have f3 := f 3 (by omega); have f4 := f 4 (by omega); have f5 := f 5 (by omega); have f6 := f 6 (by omega); have f7 := f 7 (by omega); have f8 := f 8 (by omega)
        subst hvs
        exact ⟨f0, f1, f2, f3, f4, f5, f6, f7, f8⟩
      · rw [if_pos (by omega), if_neg (by omega)]
        exact (hs.fr hF (Nat.le_refl _) (Or.inr (by omega))).mono h.rn (Nat.le_refl _)
theorem ChgsOwnAt.start {w1 : World} {g n : Nat} (x : Nat → Ch) (h : Room w1 g (n * 9)) : ChgsOwnAt w1 g w1.heap.size 0 n x (fun _ => g + 1) :=
  ⟨h, Nat.lt_succ_self _, fun _ h => absurd h (Nat.not_lt_zero _), h.lt, Nat.le_refl _, fun _ h => absurd h (Nat.not_lt_zero _)⟩
set_option maxRecDepth 100000 in
set_option maxHeartbeats 400000 in
theorem toChs_any (n : Nat) (x : Nat → Ch) (ad : Option Addr) (cap : Nat) (w : World) (lo hi : Nat) (hhi : hi ≤ w.heap.size) (hl : (n : Int) ≤ 1099511627776) (hf : ∀ i, i < n → ObFit (x i).ob) (hc : ChgsIn w lo hi ad n x) :
    Calls Tryz.prog 17 #[.slice ad n cap] w fun e w' => ∃ cap' r, e = .returned (.slice (some ⟨w.heap.size, 0, none⟩) n cap') ∧ ChgsOwnAt w' w.heap.size w'.heap.size n n x r ∧ Below w.heap.size w w' := by
  obtain ⟨i0, hi0, hz0, hz1, hz2⟩ := info_parts Tryz.info48
  go_enter Tryz.func17, Tryz.ntmps17
  go_wp2_with (first
    | (at_make; refine wpList_make_full _ rfl _ _ 30 rfl w.heap.size 48 i0 _ 9 Tryz.underlying30 hi0 hz0 hz1 .i64 .i64 _ _ n rfl rfl (by omega) (by omega) (by rw [hz2]; omega) (by unfold maxLen; omega) (by omega) ?_; intro w1 hown1 hgrow1)
    )
  have r1 := ChgsOwnAt.start x (room_made hown1)
  have hb1 : Below w.heap.size w w1 := (Below.refl _ _).grown hgrow1 (Nat.le_refl _) (by simp)
  clear hown1 hgrow1 hi0 hz0 hz1 hz2
  go_loopw [4] (fun i wr => ∃ k : Nat, k ≤ n ∧ i = .int .i64 k ∧ Below w.heap.size w wr ∧ ∃ r, ChgsOwnAt wr w.heap.size wr.heap.size k n x r) (fun i _ => n - (intOf i).toNat)
  case atStart => exact ⟨0, Nat.zero_le _, rfl, hb1, _, r1⟩
  case round =>
    obtain ⟨k, hk, rfl, hb, r, ho⟩ := hrel
    clear r1 hb1
    by_cases hkn : k < n
    · obtain ⟨b, off, ah, ch, rfl, hlo, hbh, hcx, hsx⟩ := hc k hkn
      have hfk := (hf k hkn).h
      obtain ⟨d0, d1, d2, d3, d4, d5, d6, d7, d8⟩ := hcx.below hb (by omega)
      have hsx' := hsx.below hb hhi
      clear hc hf hcx hsx
      have HO := hid ho
      have hrm := ho.room
      clear ho
      go_wp2_with (fail)
      refine (toCh_any (x k) ah ch wr lo hi (Nat.le_trans hhi hb.size) hfk hsx').mono ?_
      rintro e w1 ⟨ah', ch', rfl, hown, hb1⟩
      obtain ⟨r', R⟩ := HO.out.step hkn hb1 (ch := ch') hown
      have HR := hid R
      have HB := hid ((hb.trans (hb1.mono hb.size)).trans ((fr_setCells w.heap.size [Value.int .i64 (x k).ver, .bool (x k).gone, .string (x k).ob.kind, .string (x k).ob.name, .int .i64 (x k).ob.ver, .int .i64 (x k).ob.born, .string (x k).ob.text, .bool (x k).ob.ending, .slice ah' (x k).ob.hn ch'] (k * 9) w1).below (Nat.le_refl _) (hb.trans (hb1.mono hb.size)).size))
      have hrm1 := hrm.below hb1 hrm.lt
      obtain ⟨_, q0⟩ := hrm1.has (k * 9) (by omega)
      obtain ⟨_, q1⟩ := hrm1.has (k * 9 + 1) (by omega)
      obtain ⟨_, q2⟩ := hrm1.has (k * 9 + 2) (by omega)
      obtain ⟨_, q3⟩ := hrm1.has (k * 9 + 3) (by omega)
      obtain ⟨_, q4⟩ := hrm1.has (k * 9 + 4) (by omega)
      obtain ⟨_, q5⟩ := hrm1.has (k * 9 + 5) (by omega)
      obtain ⟨_, q6⟩ := hrm1.has (k * 9 + 6) (by omega)
      obtain ⟨_, q7⟩ := hrm1.has (k * 9 + 7) (by omega)
      obtain ⟨_, q8⟩ := hrm1.has (k * 9 + 8) (by omega)
      have qf := hrm1.free
      clear hrm hrm1 R HO d0 d1 d2 d3 d4 d5 d6 d7 d8 hsx' hown
      go_wp2
      go_roundw
      case rel => exact ⟨k + 1, by omega, by go_num, HB.out, r', HR.out⟩
      case measure => simp [intOf]; omega
    · have : k = n := by omega
      subst this
      have HO := hid ho
      clear hc hf ho
      go_wp2
      go_ret
      exact ⟨_, r, rfl, HO.out, hb⟩
end Go.Proofs.YtkbghbbaldjinaaGreatDoor
