import Derived.Test.YtjepponnhieocaaNa
namespace Go.Proofs.Ytjepponnhieocaa
open Go.RowKit
set_option maxRecDepth 100000 in
set_option maxHeartbeats 4000000 in
theorem markZ (n o : Int) (u : Bool) (k : Int) (hk : 0 ≤ k) (w : World) : Calls Try.prog 27 #[rcZ n o u, .int .i64 k] w fun e w' => e = .returned (.int .i64 k) ∧ Below w.heap.size w w' := by
  have hB0 := below_alloc w (.cells (rcL n o u).toArray 58)
  have H0 := holds_new w (rcL n o u).toArray 58
  have hz0 : w.heap.size < (w.alloc (.cells (rcL n o u).toArray 58)).heap.size := by simp
  go_enter Try.func27, Try.ntmps27
  go_wp2_with fail
  refine (nil52 k hk _).mono ?_
  rintro e w1 ⟨rfl, hb1⟩
  have hB1 : Below w.heap.size w w1 := hB0.trans (hb1.mono hB0.size)
  have H1 : Holds w1 w.heap.size (rcL n o u).toArray := H0.below hb1 hz0
  have hz1 : w.heap.size < w1.heap.size := Nat.lt_of_lt_of_le hz0 hb1.size
  clear hb1 H0
  obtain ⟨p0, p1, p2, p3, p4, p5, p6, p7, p8, p9, p10, p11, p12, p13, p14, p15, p16, p17⟩ := holds18 H1
  go_wp2_with fail
  refine (nil52 k hk _).mono ?_
  rintro e w2 ⟨rfl, hb2⟩
  clear p0 p1 p2 p3 p4 p5 p6 p7 p8 p9 p10 p11 p12 p13 p14 p15 p16 p17
  have hB2 : Below w.heap.size w w2 := hB1.trans (hb2.mono hB1.size)
  have H2 : Holds w2 w.heap.size (rcL n o u).toArray := H1.below hb2 hz1
  have hz2 : w.heap.size < w2.heap.size := Nat.lt_of_lt_of_le hz1 hb2.size
  clear hb2 H1
  obtain ⟨p0, p1, p2, p3, p4, p5, p6, p7, p8, p9, p10, p11, p12, p13, p14, p15, p16, p17⟩ := holds18 H2
  go_wp2_with fail
  refine (nil53 k _).mono ?_
  rintro e w3 ⟨rfl, he3⟩
  have hb3 : Below w2.heap.size w2 w3 := by rw [he3]; exact Below.refl _ _
  clear he3
  clear p0 p1 p2 p3 p4 p5 p6 p7 p8 p9 p10 p11 p12 p13 p14 p15 p16 p17
  have hB3 : Below w.heap.size w w3 := hB2.trans (hb3.mono hB2.size)
  have H3 : Holds w3 w.heap.size (rcL n o u).toArray := H2.below hb3 hz2
  have hz3 : w.heap.size < w3.heap.size := Nat.lt_of_lt_of_le hz2 hb3.size
  clear hb3 H2
  obtain ⟨p0, p1, p2, p3, p4, p5, p6, p7, p8, p9, p10, p11, p12, p13, p14, p15, p16, p17⟩ := holds18 H3
  go_wp2_with fail
  refine (nil54 k _).mono ?_
  rintro e w4 ⟨rfl, he4⟩
  have hb4 : Below w3.heap.size w3 w4 := by rw [he4]; exact Below.refl _ _
  clear he4
  clear p0 p1 p2 p3 p4 p5 p6 p7 p8 p9 p10 p11 p12 p13 p14 p15 p16 p17
  have hB4 : Below w.heap.size w w4 := hB3.trans (hb4.mono hB3.size)
  have H4 : Holds w4 w.heap.size (rcL n o u).toArray := H3.below hb4 hz3
  have hz4 : w.heap.size < w4.heap.size := Nat.lt_of_lt_of_le hz3 hb4.size
  clear hb4 H3
  obtain ⟨p0, p1, p2, p3, p4, p5, p6, p7, p8, p9, p10, p11, p12, p13, p14, p15, p16, p17⟩ := holds18 H4
  go_wp2_with fail
  refine (nil55 k _).mono ?_
  rintro e w5 ⟨rfl, he5⟩
  have hb5 : Below w4.heap.size w4 w5 := by rw [he5]; exact Below.refl _ _
  clear he5
  clear p0 p1 p2 p3 p4 p5 p6 p7 p8 p9 p10 p11 p12 p13 p14 p15 p16 p17
  have hB5 : Below w.heap.size w w5 := hB4.trans (hb5.mono hB4.size)
  have H5 : Holds w5 w.heap.size (rcL n o u).toArray := H4.below hb5 hz4
  have hz5 : w.heap.size < w5.heap.size := Nat.lt_of_lt_of_le hz4 hb5.size
  clear hb5 H4
  obtain ⟨p0, p1, p2, p3, p4, p5, p6, p7, p8, p9, p10, p11, p12, p13, p14, p15, p16, p17⟩ := holds18 H5
  go_wp2_with fail
  refine (nil18 k _).mono ?_
  rintro e w6 ⟨rfl, he6⟩
  have hb6 : Below w5.heap.size w5 w6 := by rw [he6]; exact Below.refl _ _
  clear he6
  clear p0 p1 p2 p3 p4 p5 p6 p7 p8 p9 p10 p11 p12 p13 p14 p15 p16 p17
  have hB6 : Below w.heap.size w w6 := hB5.trans (hb6.mono hB5.size)
  have H6 : Holds w6 w.heap.size (rcL n o u).toArray := H5.below hb6 hz5
  have hz6 : w.heap.size < w6.heap.size := Nat.lt_of_lt_of_le hz5 hb6.size
  clear hb6 H5
  obtain ⟨p0, p1, p2, p3, p4, p5, p6, p7, p8, p9, p10, p11, p12, p13, p14, p15, p16, p17⟩ := holds18 H6
  go_wp2_with fail
  refine (nil56 k _).mono ?_
  rintro e w7 ⟨rfl, he7⟩
  have hb7 : Below w6.heap.size w6 w7 := by rw [he7]; exact Below.refl _ _
  clear he7
  clear p0 p1 p2 p3 p4 p5 p6 p7 p8 p9 p10 p11 p12 p13 p14 p15 p16 p17
  have hB7 : Below w.heap.size w w7 := hB6.trans (hb7.mono hB6.size)
  have H7 : Holds w7 w.heap.size (rcL n o u).toArray := H6.below hb7 hz6
  have hz7 : w.heap.size < w7.heap.size := Nat.lt_of_lt_of_le hz6 hb7.size
  clear hb7 H6
  clear H7
  go_wp2
  go_ret
  exact ⟨rfl, hB7⟩
def newN (n o : Int) : Int := if numOk n o then n else 0
def newO (n o : Int) : Int := if numOk n o then o else 0
theorem there41 (w : World) : (w.alloc (.cells (rcL 0 0 false).toArray 58)).there w.heap.size 0 18 :=
  Holds.there (c := (rcL 0 0 false).toArray) (holds_new w _ 58) (fun i => by rw [World.frozen?_alloc_at _ _ _ _ rfl])
end Go.Proofs.Ytjepponnhieocaa
