import Derived.Test.YtkfbclopkgnacaaGreatDoorJw
namespace Go.Proofs.YtkfbclopkgnacaaGreatDoor
open Go.RowKit Go.Shelf
theorem own_slice {w : World} {base e z n : Nat} {v : Value} {xs : List Value} (h : w.ownsRow base e z v n xs) : ∃ a3 n3 c3, v = .slice a3 n3 c3 := by
  rcases h.2 with ⟨rfl, _⟩ | ⟨g, cap, cur, rfl, _⟩
  · exact ⟨_, _, _, rfl⟩
  · exact ⟨_, _, _, rfl⟩
theorem op_app {o : Oper} {a : Act} {w : World} {K : Act → World → Prop} {Q : Exit → Act → World → Prop}
    (s x : Operand) (T : TypeId) (hop : o.op = Op.call { callee := Callee.builtin Builtin.append, args := #[s, x], argTypes := #[T, T] })
    (base : Nat) (e : TypeId) (i : TypeInfo) (z : Value) (size bytes : Nat) (ht : Tryz.prog.underlying T = some (.slice e)) (hi : Tryz.prog.info? e = some i) (hz : i.zero = some z)
    (hsize : i.size = size) (hby : i.bytes = bytes) (hzs : z.cells.size = size) (hsz : 0 < size)
    (v : Value) (n : Nat) (xs : List Value) (hs : a.eval s = v) (hown : w.ownsRow base e size v n xs)
    (ad : Addr) (m c : Nat) (news : List Value) (hx : a.eval x = .slice (some ad) m c) (hl : news.length = m * size) (hnews : ∀ j u, news[j]? = some u → w.cell? (ad.add j) = some u) (h1 : ∀ u ∈ news, u.oneCell' = true)
    (h63 : n + m ≤ maxLen) (hbytes : (n + m) * bytes ≤ 140737488355328) (hbase : base ≤ w.heap.size)
    (hK : ∀ v' w', w'.ownsRow base e size v' (n + m) (xs ++ news) → w.grownBy w' v.ownBlock → (v'.ownBlock = v.ownBlock ∨ v'.ownBlock = some w.heap.size) → K (a.put o.dst v') w') : Oper.wp Tryz.prog o a w K Q := by
  obtain ⟨v2, w2, hr, h2, h3, _, h5⟩ := run_append_own_at (P := Tryz.prog) w base T o.type e i z size bytes ht hi hz hsize hby hzs hsz v n xs hown ad m c news hl hnews h1 h63 hbytes hbase
  unfold Oper.wp execOp
  simp only [hop, resolve, invoke, builtin, Sem.run_bind, Sem.run_pure, Result.andThen_ok, List.map_toArray, List.map_cons, List.map_nil, hs, hx, hr]
  exact hK v2 w2 h2 h3 h5
set_option maxRecDepth 100000 in
set_option maxHeartbeats 4000000 in
theorem rlReg9 (p0 p1 p2 p3 p6 p7 p8 p9 p10 p11 p12 p13 p14 p15 p16 p17 p18 p19 p20 p21 p22 p23 p24 p25 p26 p27 p28 p29 p30 p31 p32 p33 p34 p35 p36 p37 p38 p39 p40 p41 p42 p43 p44 p45 p46 p47 p48 p49 p50 p51 p52 : Value) (w W : World) (x : Bk) (q : ByteArray) (d : Bool) (v1 v2 v3 : Value) (S : RlS w W x q d v1 v2 v3) (hE : ErC w) (hw2 : 2 < w.heap.size + 2) (hq : (q.size : Int) ≤ 1048576) (hn : x.on ≤ 1048576) (Q : Exit → Act → World → Prop)
    (hQ : ∀ (u1 u2 u3 : Value) (o : Ob) (q2 : ByteArray) (d2 : Bool) (X : World), RlS w X { x with on := x.on + 1, os := updF x.os x.on o } q2 d2 u3 v2 v3 → ObR q d o q2 d2 → Q .normal ⟨#[p0, p1, p2, p3, (.pointer (some ⟨w.heap.size + 1, 0, none⟩)), (.pointer (some ⟨w.heap.size + 2, 0, none⟩)), p6, p7, p8, p9, p10, p11, p12, p13, p14, p15, p16, p17, p18, p19, p20, p21, p22, p23, p24, p25, (.pointer (some ⟨w.heap.size + 1, 2, none⟩)), v1, u1, u2, u3, (.pointer (some ⟨w.heap.size + 1, 2, none⟩)), p32, p33, p34, p35, p36, p37, p38, p39, p40, p41, p42, p43, p44, p45, p46, p47, p48, p49, p50, p51, p52], []⟩ X) :
    Code.wp Tryz.prog (Code.region 9 #[{ dst := some 26, op := Op.fieldAddr 26 (Operand.tmp 4) 2, type := 0, pos := "l9_book_form.go:99", after := #[], guard := none }, { dst := some 27, op := Op.load 22 (Operand.tmp 26), type := 22, pos := "l9_book_form.go:99", after := #[{ on := 0, ground := Ground.data }], guard := none }, { dst := some 28, op := Op.call { callee := Callee.value (Operand.func 33), args := #[Operand.tmp 5], argTypes := #[60] }, type := 38, pos := "l9_book_form.go:99", after := #[], guard := none }, { dst := some 29, op := Op.buildSlice 22 1 #[(0, Operand.tmp 28)], type := 22, pos := "l9_book_form.go:99", after := #[{ on := 2, ground := Ground.data }], guard := none }, { dst := some 30, op := Op.call { callee := Callee.builtin Builtin.append, args := #[Operand.tmp 27, Operand.tmp 29], argTypes := #[22, 22] }, type := 22, pos := "l9_book_form.go:99", after := #[{ on := 1, ground := Ground.data }, { on := 3, ground := Ground.data }, { on := 2, ground := Ground.chain }], guard := none }, { dst := some 31, op := Op.fieldAddr 26 (Operand.tmp 4) 2, type := 0, pos := "l9_book_form.go:99", after := #[{ on := 0, ground := Ground.phase }, { on := 1, ground := Ground.phase }, { on := 2, ground := Ground.phase }, { on := 3, ground := Ground.phase }, { on := 4, ground := Ground.phase }], guard := none }, { dst := none, op := Op.store 22 (Operand.tmp 31) (Operand.tmp 30), type := 0, pos := "l9_book_form.go:99", after := #[{ on := 5, ground := Ground.data }, { on := 4, ground := Ground.data }, { on := 4, ground := Ground.chain }, { on := 0, ground := Ground.phase }, { on := 1, ground := Ground.phase }, { on := 2, ground := Ground.phase }, { on := 3, ground := Ground.phase }, { on := 4, ground := Ground.phase }], guard := none }] true) Q ⟨#[p0, p1, p2, p3, (.pointer (some ⟨w.heap.size + 1, 0, none⟩)), (.pointer (some ⟨w.heap.size + 2, 0, none⟩)), p6, p7, p8, p9, p10, p11, p12, p13, p14, p15, p16, p17, p18, p19, p20, p21, p22, p23, p24, p25, p26, p27, p28, p29, p30, p31, p32, p33, p34, p35, p36, p37, p38, p39, p40, p41, p42, p43, p44, p45, p46, p47, p48, p49, p50, p51, p52], []⟩ W := by
  obtain ⟨i0, hi0, hz0, hz1, hz2⟩ := info_parts Tryz.info38r
  obtain ⟨A1, C1, h1, A2, C2, h2, hB⟩ := S.bd
  obtain ⟨c, hrow, hat⟩ := hB.o.row
  have hz := S.sz
  have hcell : ∀ (f : Nat → Bool) (t : Nat → Value) X, (fun (f : Nat → Bool) (t : Nat → Value) (X : World) => (f 0 = true → t 0 = (.pointer (some ⟨w.heap.size + 1, 2, none⟩))) ∧ (f 1 = true → t 1 = v1) ∧ (f 2 = false → f 3 = false ∧ RlS w X x q d v1 v2 v3 ∧ Below W.heap.size W X) ∧ (f 2 = true → ∃ (o : Ob) (ad : Option Addr) (cap b' : Nat) (q2 : ByteArray) (d2 : Bool) (w2 : World), t 2 = .agg #[.string o.kind, .string o.name, .int .i64 o.ver, .int .i64 o.born, .string o.text, .bool o.ending, .slice ad o.hn cap] ∧ StrsOwn w2 b' (b' + 1) ad o.hn o.hs ∧ (o.hn ≠ 0 → W.heap.size ≤ b' ∧ b' < w2.heap.size) ∧ RlS w w2 x q2 d2 v1 v2 v3 ∧ Fr (w.heap.size + 2) (w.heap.size + 2 + 1) W w2 ∧ ObR q d o q2 d2 ∧ (f 3 = false → X = w2) ∧ (f 3 = true → t 3 = .slice (some ⟨w2.heap.size, 0, none⟩) 1 1 ∧ X = w2.alloc (.cells #[.string o.kind, .string o.name, .int .i64 o.ver, .int .i64 o.born, .string o.text, .bool o.ending, .slice ad o.hn cap] 38)))) f t X → X.cell? ⟨w.heap.size + 1, 2, none⟩ = some v1 := by
    rintro f t X ⟨_, _, k2, k3⟩
    cases h2 : f 2 with
    | false => exact (k2 h2).2.1.bk 2 _ rfl
    | true =>
      obtain ⟨o, ad, cap, b', q2, d2, w2, e2, s2, l2, r2, f2, o2, n3, y3⟩ := k3 h2
      cases h3 : f 3 with
      | false => rw [n3 h3]; exact r2.bk 2 _ rfl
      | true => rw [(y3 h3).2]; exact (r2.below (Y_below w2 _)).bk 2 _ rfl
  refine regionP (by kernel_rfl) 4 (fun t : Nat → Value => #[p0, p1, p2, p3, (.pointer (some ⟨w.heap.size + 1, 0, none⟩)), (.pointer (some ⟨w.heap.size + 2, 0, none⟩)), p6, p7, p8, p9, p10, p11, p12, p13, p14, p15, p16, p17, p18, p19, p20, p21, p22, p23, p24, p25, t 0, t 1, t 2, t 3, p30, p31, p32, p33, p34, p35, p36, p37, p38, p39, p40, p41, p42, p43, p44, p45, p46, p47, p48, p49, p50, p51, p52]) (fun i => match i with | 0 => p26 | 1 => p27 | 2 => p28 | _ => p29)
    (fun (f : Nat → Bool) (t : Nat → Value) (X : World) => (f 0 = true → t 0 = (.pointer (some ⟨w.heap.size + 1, 2, none⟩))) ∧ (f 1 = true → t 1 = v1) ∧ (f 2 = false → f 3 = false ∧ RlS w X x q d v1 v2 v3 ∧ Below W.heap.size W X) ∧ (f 2 = true → ∃ (o : Ob) (ad : Option Addr) (cap b' : Nat) (q2 : ByteArray) (d2 : Bool) (w2 : World), t 2 = .agg #[.string o.kind, .string o.name, .int .i64 o.ver, .int .i64 o.born, .string o.text, .bool o.ending, .slice ad o.hn cap] ∧ StrsOwn w2 b' (b' + 1) ad o.hn o.hs ∧ (o.hn ≠ 0 → W.heap.size ≤ b' ∧ b' < w2.heap.size) ∧ RlS w w2 x q2 d2 v1 v2 v3 ∧ Fr (w.heap.size + 2) (w.heap.size + 2 + 1) W w2 ∧ ObR q d o q2 d2 ∧ (f 3 = false → X = w2) ∧ (f 3 = true → t 3 = .slice (some ⟨w2.heap.size, 0, none⟩) 1 1 ∧ X = w2.alloc (.cells #[.string o.kind, .string o.name, .int .i64 o.ver, .int .i64 o.born, .string o.text, .bool o.ending, .slice ad o.hn cap] 38))))
    (fun (A : Act) (Y : World) => ∃ (u1 u2 u3 : Value) (o : Ob) (q2 : ByteArray) (d2 : Bool), A = ⟨#[p0, p1, p2, p3, (.pointer (some ⟨w.heap.size + 1, 0, none⟩)), (.pointer (some ⟨w.heap.size + 2, 0, none⟩)), p6, p7, p8, p9, p10, p11, p12, p13, p14, p15, p16, p17, p18, p19, p20, p21, p22, p23, p24, p25, (.pointer (some ⟨w.heap.size + 1, 2, none⟩)), v1, u1, u2, u3, p31, p32, p33, p34, p35, p36, p37, p38, p39, p40, p41, p42, p43, p44, p45, p46, p47, p48, p49, p50, p51, p52], []⟩ ∧ (∃ a3 n3 c3, u3 = .slice a3 n3 c3) ∧ Y.cell? ⟨w.heap.size + 1, 2, none⟩ = some v1 ∧ Y.frozen? ⟨w.heap.size + 1, 2, none⟩ = false ∧ RlS w (Y.setCell ⟨w.heap.size + 1, 2, none⟩ u3) { x with on := x.on + 1, os := updF x.os x.on o } q2 d2 u3 v2 v3 ∧ ObR q d o q2 d2)
    (fun (A : Act) (Y : World) => ∃ (u1 u2 u3 : Value) (o : Ob) (q2 : ByteArray) (d2 : Bool), A = ⟨#[p0, p1, p2, p3, (.pointer (some ⟨w.heap.size + 1, 0, none⟩)), (.pointer (some ⟨w.heap.size + 2, 0, none⟩)), p6, p7, p8, p9, p10, p11, p12, p13, p14, p15, p16, p17, p18, p19, p20, p21, p22, p23, p24, p25, (.pointer (some ⟨w.heap.size + 1, 2, none⟩)), v1, u1, u2, u3, (.pointer (some ⟨w.heap.size + 1, 2, none⟩)), p32, p33, p34, p35, p36, p37, p38, p39, p40, p41, p42, p43, p44, p45, p46, p47, p48, p49, p50, p51, p52], []⟩ ∧ (∃ a3 n3 c3, u3 = .slice a3 n3 c3) ∧ Y.cell? ⟨w.heap.size + 1, 2, none⟩ = some v1 ∧ Y.frozen? ⟨w.heap.size + 1, 2, none⟩ = false ∧ RlS w (Y.setCell ⟨w.heap.size + 1, 2, none⟩ u3) { x with on := x.on + 1, os := updF x.os x.on o } q2 d2 u3 v2 v3 ∧ ObR q d o q2 d2)
    (fun (A : Act) (Y : World) => ∃ (u1 u2 u3 : Value) (o : Ob) (q2 : ByteArray) (d2 : Bool), A = ⟨#[p0, p1, p2, p3, (.pointer (some ⟨w.heap.size + 1, 0, none⟩)), (.pointer (some ⟨w.heap.size + 2, 0, none⟩)), p6, p7, p8, p9, p10, p11, p12, p13, p14, p15, p16, p17, p18, p19, p20, p21, p22, p23, p24, p25, (.pointer (some ⟨w.heap.size + 1, 2, none⟩)), v1, u1, u2, u3, (.pointer (some ⟨w.heap.size + 1, 2, none⟩)), p32, p33, p34, p35, p36, p37, p38, p39, p40, p41, p42, p43, p44, p45, p46, p47, p48, p49, p50, p51, p52], []⟩ ∧ RlS w Y { x with on := x.on + 1, os := updF x.os x.on o } q2 d2 u3 v2 v3 ∧ ObR q d o q2 d2)
    rfl (by kernel_rfl) (Or.inl (by kernel_rfl)) (by kernel_rfl) (by kernel_rfl) rfl ?_ ?_ ?_ ?_ ?_ ?_
  · intro f hf
    exact ⟨fun h => (by rw [hf] at h; cases h), fun h => (by rw [hf] at h; cases h), fun _ => ⟨hf 3, S.below ⟨rfl, rfl, rfl, Nat.le_refl _, fun _ _ => rfl⟩, ⟨rfl, rfl, rfl, Nat.le_refl _, fun _ _ => rfl⟩⟩, fun h => (by rw [hf] at h; cases h)⟩
  · intro i hi f t X K hI hfi hwt hK
    rcases (show i = 0 ∨ i = 1 ∨ i = 2 ∨ i = 3 by omega) with rfl | rfl | rfl | rfl
    · have h := hK (.pointer (some ⟨w.heap.size + 1, 2, none⟩)) X (fun g hg hk => ⟨fun _ => updT_same, fun e => (updT_ne (by omega)).trans (hI.2.1 (by rw [← hk 1 (by omega)]; exact e)), fun e => (by obtain ⟨k1, k2, k3⟩ := hI.2.2.1 (by rw [← hk 2 (by omega)]; exact e); exact ⟨by rw [hk 3 (by omega)]; exact k1, k2, k3⟩), fun e => (by obtain ⟨o, ad, cap, b', q2, d2, w2, e2, s2, l2, r2, f2, o2, n3, y3⟩ := hI.2.2.2 (by rw [← hk 2 (by omega)]; exact e); exact ⟨o, ad, cap, b', q2, d2, w2, (updT_ne (by omega)).trans e2, s2, l2, r2, f2, o2, fun e3 => n3 (by rw [← hk 3 (by omega)]; exact e3), fun e3 => (by obtain ⟨k1, k2⟩ := y3 (by rw [← hk 3 (by omega)]; exact e3); exact ⟨(updT_ne (by omega)).trans k1, k2⟩)⟩)⟩)
      refine wpOp_of rfl rfl ?_
      clear hK hI hcell
      go_simp
      simpa [updT] using h
    · have e0 : t 0 = (.pointer (some ⟨w.heap.size + 1, 2, none⟩)) := hI.1 (hwt 0 ⟨_, rfl, ⟨0, .data⟩, by simp, rfl, rfl⟩)
      have cX := hcell f t X hI
      have h := hK v1 X (fun g hg hk => ⟨fun e => (updT_ne (by omega)).trans (hI.1 (by rw [← hk 0 (by omega)]; exact e)), fun _ => updT_same, fun e => (by obtain ⟨k1, k2, k3⟩ := hI.2.2.1 (by rw [← hk 2 (by omega)]; exact e); exact ⟨by rw [hk 3 (by omega)]; exact k1, k2, k3⟩), fun e => (by obtain ⟨o, ad, cap, b', q2, d2, w2, e2, s2, l2, r2, f2, o2, n3, y3⟩ := hI.2.2.2 (by rw [← hk 2 (by omega)]; exact e); exact ⟨o, ad, cap, b', q2, d2, w2, (updT_ne (by omega)).trans e2, s2, l2, r2, f2, o2, fun e3 => n3 (by rw [← hk 3 (by omega)]; exact e3), fun e3 => (by obtain ⟨k1, k2⟩ := y3 (by rw [← hk 3 (by omega)]; exact e3); exact ⟨(updT_ne (by omega)).trans k1, k2⟩)⟩)⟩)
      refine wpOp_of rfl rfl ?_
      clear hK hI hcell
      go_simp
      simpa [updT, e0] using h
    · obtain ⟨hf3, hS, hbX⟩ := hI.2.2.1 hfi
      have hzX := hS.sz
      have hcall := object_any (w.heap.size + 2) q d hq X hS.rd (by omega) (hS.er hE) hw2
      refine wpOp_of rfl rfl ?_
      clear hcell
      go_simp
      go_at_call 33
      refine hcall.mono ?_
      rintro e w2 ⟨o, ad, cap, b', q2, d2, rfl, s2, l2, r2, f2, o2⟩
      have h := hK (.agg #[.string o.kind, .string o.name, .int .i64 o.ver, .int .i64 o.born, .string o.text, .bool o.ending, .slice ad o.hn cap]) w2 (fun g hg hk => ⟨fun e => (updT_ne (by omega)).trans (hI.1 (by rw [← hk 0 (by omega)]; exact e)), fun e => (updT_ne (by omega)).trans (hI.2.1 (by rw [← hk 1 (by omega)]; exact e)), fun e => (by rw [hg] at e; cases e), fun _ => ⟨o, ad, cap, b', q2, d2, w2, updT_same, s2, fun h0 => ⟨Nat.le_trans hbX.size (l2 h0).1, (l2 h0).2⟩, hS.step f2 r2, (Fr.of_below hbX).trans f2, o2, fun _ => rfl, fun e3 => (by rw [hk 3 (by omega), hf3] at e3; cases e3)⟩⟩)
      simpa [updT] using h
    · obtain ⟨o, ad, cap, b', q2, d2, w2, e2, s2, l2, r2, f2, o2, n3, y3⟩ := hI.2.2.2 (hwt 2 ⟨_, rfl, ⟨2, .data⟩, by simp, rfl, rfl⟩)
      obtain rfl := n3 hfi
      have h := hK (.slice (some ⟨X.heap.size, 0, none⟩) 1 1) (X.alloc (.cells #[.string o.kind, .string o.name, .int .i64 o.ver, .int .i64 o.born, .string o.text, .bool o.ending, .slice ad o.hn cap] 38)) (fun g hg hk => ⟨fun e => (updT_ne (by omega)).trans (hI.1 (by rw [← hk 0 (by omega)]; exact e)), fun e => (updT_ne (by omega)).trans (hI.2.1 (by rw [← hk 1 (by omega)]; exact e)), fun e => (by rw [hk 2 (by omega), hwt 2 ⟨_, rfl, ⟨2, .data⟩, by simp, rfl, rfl⟩] at e; cases e), fun _ => ⟨o, ad, cap, b', q2, d2, X, (updT_ne (by omega)).trans e2, s2, l2, r2, f2, o2, fun e3 => (by rw [hg] at e3; cases e3), fun _ => ⟨updT_same, rfl⟩⟩⟩)
      refine wpOp_of rfl rfl ?_
      clear hK hI hcell
      go_simp
      simpa [updT, e2] using h
  · intro f t X K hI hall hK
    have e0 := hI.1 (hall 0 (by omega))
    have e1 := hI.2.1 (hall 1 (by omega))
    obtain ⟨o, ad, cap, b', q2, d2, w2, e2, s2, l2, r2, f2, o2, n3, y3⟩ := hI.2.2.2 (hall 2 (by omega))
    obtain ⟨e3, rfl⟩ := y3 (hall 3 (by omega))
    have hzf := f2.size
    have hSY := r2.below (Y_below w2 (.cells #[.string o.kind, .string o.name, .int .i64 o.ver, .int .i64 o.born, .string o.text, .bool o.ending, .slice ad o.hn cap] 38))
    have hrow2 := ownsRow_frR hrow (f2.thenBelow ((Y_below w2 (.cells #[.string o.kind, .string o.name, .int .i64 o.ver, .int .i64 o.born, .string o.text, .bool o.ending, .slice ad o.hn cap] 38)).mono f2.size)) (by omega)
    refine wpOp_of rfl rfl (op_app (.tmp 27) (.tmp 29) 22 rfl (w.heap.size + 3) 38 i0 _ 7 96 Tryz.underlying22 hi0 hz0 hz1 hz2 rfl (by decide) v1 x.on (rowCells (x.on * 7) c) e1 hrow2 ⟨w2.heap.size, 0, none⟩ 1 1 [.string o.kind, .string o.name, .int .i64 o.ver, .int .i64 o.born, .string o.text, .bool o.ending, .slice ad o.hn cap] e3 rfl (news_alloc w2 [.string o.kind, .string o.name, .int .i64 o.ver, .int .i64 o.born, .string o.text, .bool o.ending, .slice ad o.hn cap] 38) (by simp [Value.oneCell']) (by unfold maxLen; omega) (by omega) (by simp; omega) ?_)
    intro v6 w6 own6 grow6 at6
    obtain ⟨c6, f6⟩ := cell_grown (o := 2) grow6 (fun g hg => (hrow.lt g hg).1) (by simp; omega) (hSY.bk 2 _ rfl) (hSY.bt 2 (by omega)).2
    refine hK _ _ ⟨t 2, t 3, v6, o, q2, d2, ?_, own_slice own6, c6, f6, RlS.addO S hB hat r2 f2 s2 l2 own6 grow6 at6, o2⟩
    simp [Act.put, e0, e1]
  · rintro A Y K ⟨u1, u2, u3, o, q2, d2, rfl, s6, c6, f6, hR, hO⟩ hK
    have h := hK _ Y ⟨u1, u2, u3, o, q2, d2, rfl, s6, c6, f6, hR, hO⟩
    refine wpOp_of rfl rfl ?_
    clear hK hcell
    go_simp
    simpa using h
  · rintro A Y K ⟨u1, u2, _, o, q2, d2, rfl, ⟨a3, n3, c3, rfl⟩, c6, f6, hR, hO⟩ hK
    have h := hK _ _ ⟨u1, u2, _, o, q2, d2, rfl, hR, hO⟩
    refine wpOp_of rfl rfl ?_
    clear hK hcell
    go_simp
    simpa using h
  · rintro A Y ⟨u1, u2, u3, o, q2, d2, rfl, hR, hO⟩
    exact hQ u1 u2 u3 o q2 d2 Y hR hO
set_option maxRecDepth 100000 in
set_option maxHeartbeats 4000000 in
theorem rlReg11 (p0 p1 p2 p3 p6 p7 p8 p9 p10 p11 p12 p13 p14 p15 p16 p17 p18 p19 p20 p21 p22 p23 p24 p25 p26 p27 p28 p29 p30 p31 p32 p33 p34 p35 p36 p37 p38 p39 p40 p41 p42 p43 p44 p45 p46 p47 p48 p49 p50 p51 p52 : Value) (w W : World) (x : Bk) (q : ByteArray) (d : Bool) (v1 v2 v3 : Value) (S : RlS w W x q d v1 v2 v3) (hE : ErC w) (hw2 : 2 < w.heap.size + 2) (hq : (q.size : Int) ≤ 1048576) (hn : x.hn ≤ 1048576) (Q : Exit → Act → World → Prop)
    (hQ : ∀ (u1 u2 u3 : Value) (o : Ch) (q2 : ByteArray) (d2 : Bool) (X : World), RlS w X { x with hn := x.hn + 1, hs := updF x.hs x.hn o } q2 d2 v1 u3 v3 → ChR q d o q2 d2 → Q .normal ⟨#[p0, p1, p2, p3, (.pointer (some ⟨w.heap.size + 1, 0, none⟩)), (.pointer (some ⟨w.heap.size + 2, 0, none⟩)), p6, p7, p8, p9, p10, p11, p12, p13, p14, p15, p16, p17, p18, p19, p20, p21, p22, p23, p24, p25, p26, p27, p28, p29, p30, p31, p32, p33, (.pointer (some ⟨w.heap.size + 1, 3, none⟩)), v2, u1, u2, u3, (.pointer (some ⟨w.heap.size + 1, 3, none⟩)), p40, p41, p42, p43, p44, p45, p46, p47, p48, p49, p50, p51, p52], []⟩ X) :
    Code.wp Tryz.prog (Code.region 11 #[{ dst := some 34, op := Op.fieldAddr 26 (Operand.tmp 4) 3, type := 0, pos := "l9_book_form.go:101", after := #[], guard := none }, { dst := some 35, op := Op.load 23 (Operand.tmp 34), type := 23, pos := "l9_book_form.go:101", after := #[{ on := 0, ground := Ground.data }], guard := none }, { dst := some 36, op := Op.call { callee := Callee.value (Operand.func 34), args := #[Operand.tmp 5], argTypes := #[60] }, type := 41, pos := "l9_book_form.go:101", after := #[], guard := none }, { dst := some 37, op := Op.buildSlice 23 1 #[(0, Operand.tmp 36)], type := 23, pos := "l9_book_form.go:101", after := #[{ on := 2, ground := Ground.data }], guard := none }, { dst := some 38, op := Op.call { callee := Callee.builtin Builtin.append, args := #[Operand.tmp 35, Operand.tmp 37], argTypes := #[23, 23] }, type := 23, pos := "l9_book_form.go:101", after := #[{ on := 1, ground := Ground.data }, { on := 3, ground := Ground.data }, { on := 2, ground := Ground.chain }], guard := none }, { dst := some 39, op := Op.fieldAddr 26 (Operand.tmp 4) 3, type := 0, pos := "l9_book_form.go:101", after := #[{ on := 0, ground := Ground.phase }, { on := 1, ground := Ground.phase }, { on := 2, ground := Ground.phase }, { on := 3, ground := Ground.phase }, { on := 4, ground := Ground.phase }], guard := none }, { dst := none, op := Op.store 23 (Operand.tmp 39) (Operand.tmp 38), type := 0, pos := "l9_book_form.go:101", after := #[{ on := 5, ground := Ground.data }, { on := 4, ground := Ground.data }, { on := 4, ground := Ground.chain }, { on := 0, ground := Ground.phase }, { on := 1, ground := Ground.phase }, { on := 2, ground := Ground.phase }, { on := 3, ground := Ground.phase }, { on := 4, ground := Ground.phase }], guard := none }] true) Q ⟨#[p0, p1, p2, p3, (.pointer (some ⟨w.heap.size + 1, 0, none⟩)), (.pointer (some ⟨w.heap.size + 2, 0, none⟩)), p6, p7, p8, p9, p10, p11, p12, p13, p14, p15, p16, p17, p18, p19, p20, p21, p22, p23, p24, p25, p26, p27, p28, p29, p30, p31, p32, p33, p34, p35, p36, p37, p38, p39, p40, p41, p42, p43, p44, p45, p46, p47, p48, p49, p50, p51, p52], []⟩ W := by
  obtain ⟨i0, hi0, hz0, hz1, hz2⟩ := info_parts Tryz.info41r
  obtain ⟨A1, C1, h1, A2, C2, h2, hB⟩ := S.bd
  obtain ⟨c, hrow, hat⟩ := hB.h.row
  have hz := S.sz
  have hcell : ∀ (f : Nat → Bool) (t : Nat → Value) X, (fun (f : Nat → Bool) (t : Nat → Value) (X : World) => (f 0 = true → t 0 = (.pointer (some ⟨w.heap.size + 1, 3, none⟩))) ∧ (f 1 = true → t 1 = v2) ∧ (f 2 = false → f 3 = false ∧ RlS w X x q d v1 v2 v3 ∧ Below W.heap.size W X) ∧ (f 2 = true → ∃ (o : Ch) (ad : Option Addr) (cap b' : Nat) (q2 : ByteArray) (d2 : Bool) (w2 : World), t 2 = .agg #[.int .i64 o.ver, .bool o.gone, .string o.ob.kind, .string o.ob.name, .int .i64 o.ob.ver, .int .i64 o.ob.born, .string o.ob.text, .bool o.ob.ending, .slice ad o.ob.hn cap] ∧ StrsOwn w2 b' (b' + 1) ad o.ob.hn o.ob.hs ∧ (o.ob.hn ≠ 0 → W.heap.size ≤ b' ∧ b' < w2.heap.size) ∧ RlS w w2 x q2 d2 v1 v2 v3 ∧ Fr (w.heap.size + 2) (w.heap.size + 2 + 1) W w2 ∧ ChR q d o q2 d2 ∧ (f 3 = false → X = w2) ∧ (f 3 = true → t 3 = .slice (some ⟨w2.heap.size, 0, none⟩) 1 1 ∧ X = w2.alloc (.cells #[.int .i64 o.ver, .bool o.gone, .string o.ob.kind, .string o.ob.name, .int .i64 o.ob.ver, .int .i64 o.ob.born, .string o.ob.text, .bool o.ob.ending, .slice ad o.ob.hn cap] 41)))) f t X → X.cell? ⟨w.heap.size + 1, 3, none⟩ = some v2 := by
    rintro f t X ⟨_, _, k2, k3⟩
    cases h2 : f 2 with
    | false => exact (k2 h2).2.1.bk 3 _ rfl
    | true =>
      obtain ⟨o, ad, cap, b', q2, d2, w2, e2, s2, l2, r2, f2, o2, n3, y3⟩ := k3 h2
      cases h3 : f 3 with
      | false => rw [n3 h3]; exact r2.bk 3 _ rfl
      | true => rw [(y3 h3).2]; exact (r2.below (Y_below w2 _)).bk 3 _ rfl
  refine regionP (by kernel_rfl) 4 (fun t : Nat → Value => #[p0, p1, p2, p3, (.pointer (some ⟨w.heap.size + 1, 0, none⟩)), (.pointer (some ⟨w.heap.size + 2, 0, none⟩)), p6, p7, p8, p9, p10, p11, p12, p13, p14, p15, p16, p17, p18, p19, p20, p21, p22, p23, p24, p25, p26, p27, p28, p29, p30, p31, p32, p33, t 0, t 1, t 2, t 3, p38, p39, p40, p41, p42, p43, p44, p45, p46, p47, p48, p49, p50, p51, p52]) (fun i => match i with | 0 => p34 | 1 => p35 | 2 => p36 | _ => p37)
    (fun (f : Nat → Bool) (t : Nat → Value) (X : World) => (f 0 = true → t 0 = (.pointer (some ⟨w.heap.size + 1, 3, none⟩))) ∧ (f 1 = true → t 1 = v2) ∧ (f 2 = false → f 3 = false ∧ RlS w X x q d v1 v2 v3 ∧ Below W.heap.size W X) ∧ (f 2 = true → ∃ (o : Ch) (ad : Option Addr) (cap b' : Nat) (q2 : ByteArray) (d2 : Bool) (w2 : World), t 2 = .agg #[.int .i64 o.ver, .bool o.gone, .string o.ob.kind, .string o.ob.name, .int .i64 o.ob.ver, .int .i64 o.ob.born, .string o.ob.text, .bool o.ob.ending, .slice ad o.ob.hn cap] ∧ StrsOwn w2 b' (b' + 1) ad o.ob.hn o.ob.hs ∧ (o.ob.hn ≠ 0 → W.heap.size ≤ b' ∧ b' < w2.heap.size) ∧ RlS w w2 x q2 d2 v1 v2 v3 ∧ Fr (w.heap.size + 2) (w.heap.size + 2 + 1) W w2 ∧ ChR q d o q2 d2 ∧ (f 3 = false → X = w2) ∧ (f 3 = true → t 3 = .slice (some ⟨w2.heap.size, 0, none⟩) 1 1 ∧ X = w2.alloc (.cells #[.int .i64 o.ver, .bool o.gone, .string o.ob.kind, .string o.ob.name, .int .i64 o.ob.ver, .int .i64 o.ob.born, .string o.ob.text, .bool o.ob.ending, .slice ad o.ob.hn cap] 41))))
    (fun (A : Act) (Y : World) => ∃ (u1 u2 u3 : Value) (o : Ch) (q2 : ByteArray) (d2 : Bool), A = ⟨#[p0, p1, p2, p3, (.pointer (some ⟨w.heap.size + 1, 0, none⟩)), (.pointer (some ⟨w.heap.size + 2, 0, none⟩)), p6, p7, p8, p9, p10, p11, p12, p13, p14, p15, p16, p17, p18, p19, p20, p21, p22, p23, p24, p25, p26, p27, p28, p29, p30, p31, p32, p33, (.pointer (some ⟨w.heap.size + 1, 3, none⟩)), v2, u1, u2, u3, p39, p40, p41, p42, p43, p44, p45, p46, p47, p48, p49, p50, p51, p52], []⟩ ∧ (∃ a3 n3 c3, u3 = .slice a3 n3 c3) ∧ Y.cell? ⟨w.heap.size + 1, 3, none⟩ = some v2 ∧ Y.frozen? ⟨w.heap.size + 1, 3, none⟩ = false ∧ RlS w (Y.setCell ⟨w.heap.size + 1, 3, none⟩ u3) { x with hn := x.hn + 1, hs := updF x.hs x.hn o } q2 d2 v1 u3 v3 ∧ ChR q d o q2 d2)
    (fun (A : Act) (Y : World) => ∃ (u1 u2 u3 : Value) (o : Ch) (q2 : ByteArray) (d2 : Bool), A = ⟨#[p0, p1, p2, p3, (.pointer (some ⟨w.heap.size + 1, 0, none⟩)), (.pointer (some ⟨w.heap.size + 2, 0, none⟩)), p6, p7, p8, p9, p10, p11, p12, p13, p14, p15, p16, p17, p18, p19, p20, p21, p22, p23, p24, p25, p26, p27, p28, p29, p30, p31, p32, p33, (.pointer (some ⟨w.heap.size + 1, 3, none⟩)), v2, u1, u2, u3, (.pointer (some ⟨w.heap.size + 1, 3, none⟩)), p40, p41, p42, p43, p44, p45, p46, p47, p48, p49, p50, p51, p52], []⟩ ∧ (∃ a3 n3 c3, u3 = .slice a3 n3 c3) ∧ Y.cell? ⟨w.heap.size + 1, 3, none⟩ = some v2 ∧ Y.frozen? ⟨w.heap.size + 1, 3, none⟩ = false ∧ RlS w (Y.setCell ⟨w.heap.size + 1, 3, none⟩ u3) { x with hn := x.hn + 1, hs := updF x.hs x.hn o } q2 d2 v1 u3 v3 ∧ ChR q d o q2 d2)
    (fun (A : Act) (Y : World) => ∃ (u1 u2 u3 : Value) (o : Ch) (q2 : ByteArray) (d2 : Bool), A = ⟨#[p0, p1, p2, p3, (.pointer (some ⟨w.heap.size + 1, 0, none⟩)), (.pointer (some ⟨w.heap.size + 2, 0, none⟩)), p6, p7, p8, p9, p10, p11, p12, p13, p14, p15, p16, p17, p18, p19, p20, p21, p22, p23, p24, p25, p26, p27, p28, p29, p30, p31, p32, p33, (.pointer (some ⟨w.heap.size + 1, 3, none⟩)), v2, u1, u2, u3, (.pointer (some ⟨w.heap.size + 1, 3, none⟩)), p40, p41, p42, p43, p44, p45, p46, p47, p48, p49, p50, p51, p52], []⟩ ∧ RlS w Y { x with hn := x.hn + 1, hs := updF x.hs x.hn o } q2 d2 v1 u3 v3 ∧ ChR q d o q2 d2)
    rfl (by kernel_rfl) (Or.inl (by kernel_rfl)) (by kernel_rfl) (by kernel_rfl) rfl ?_ ?_ ?_ ?_ ?_ ?_
  · intro f hf
    exact ⟨fun h => (by rw [hf] at h; cases h), fun h => (by rw [hf] at h; cases h), fun _ => ⟨hf 3, S.below ⟨rfl, rfl, rfl, Nat.le_refl _, fun _ _ => rfl⟩, ⟨rfl, rfl, rfl, Nat.le_refl _, fun _ _ => rfl⟩⟩, fun h => (by rw [hf] at h; cases h)⟩
  · intro i hi f t X K hI hfi hwt hK
    rcases (show i = 0 ∨ i = 1 ∨ i = 2 ∨ i = 3 by omega) with rfl | rfl | rfl | rfl
    · have h := hK (.pointer (some ⟨w.heap.size + 1, 3, none⟩)) X (fun g hg hk => ⟨fun _ => updT_same, fun e => (updT_ne (by omega)).trans (hI.2.1 (by rw [← hk 1 (by omega)]; exact e)), fun e => (by obtain ⟨k1, k2, k3⟩ := hI.2.2.1 (by rw [← hk 2 (by omega)]; exact e); exact ⟨by rw [hk 3 (by omega)]; exact k1, k2, k3⟩), fun e => (by obtain ⟨o, ad, cap, b', q2, d2, w2, e2, s2, l2, r2, f2, o2, n3, y3⟩ := hI.2.2.2 (by rw [← hk 2 (by omega)]; exact e); exact ⟨o, ad, cap, b', q2, d2, w2, (updT_ne (by omega)).trans e2, s2, l2, r2, f2, o2, fun e3 => n3 (by rw [← hk 3 (by omega)]; exact e3), fun e3 => (by obtain ⟨k1, k2⟩ := y3 (by rw [← hk 3 (by omega)]; exact e3); exact ⟨(updT_ne (by omega)).trans k1, k2⟩)⟩)⟩)
      refine wpOp_of rfl rfl ?_
      clear hK hI hcell
      go_simp
      simpa [updT] using h
    · have e0 : t 0 = (.pointer (some ⟨w.heap.size + 1, 3, none⟩)) := hI.1 (hwt 0 ⟨_, rfl, ⟨0, .data⟩, by simp, rfl, rfl⟩)
      have cX := hcell f t X hI
      have h := hK v2 X (fun g hg hk => ⟨fun e => (updT_ne (by omega)).trans (hI.1 (by rw [← hk 0 (by omega)]; exact e)), fun _ => updT_same, fun e => (by obtain ⟨k1, k2, k3⟩ := hI.2.2.1 (by rw [← hk 2 (by omega)]; exact e); exact ⟨by rw [hk 3 (by omega)]; exact k1, k2, k3⟩), fun e => (by obtain ⟨o, ad, cap, b', q2, d2, w2, e2, s2, l2, r2, f2, o2, n3, y3⟩ := hI.2.2.2 (by rw [← hk 2 (by omega)]; exact e); exact ⟨o, ad, cap, b', q2, d2, w2, (updT_ne (by omega)).trans e2, s2, l2, r2, f2, o2, fun e3 => n3 (by rw [← hk 3 (by omega)]; exact e3), fun e3 => (by obtain ⟨k1, k2⟩ := y3 (by rw [← hk 3 (by omega)]; exact e3); exact ⟨(updT_ne (by omega)).trans k1, k2⟩)⟩)⟩)
      refine wpOp_of rfl rfl ?_
      clear hK hI hcell
      go_simp
      simpa [updT, e0] using h
    · obtain ⟨hf3, hS, hbX⟩ := hI.2.2.1 hfi
      have hzX := hS.sz
      have hcall := change_any (w.heap.size + 2) q d hq X hS.rd (by omega) (hS.er hE) hw2
      refine wpOp_of rfl rfl ?_
      clear hcell
      go_simp
      go_at_call 34
      refine hcall.mono ?_
      rintro e w2 ⟨o, ad, cap, b', q2, d2, rfl, s2, l2, r2, f2, o2⟩
      have h := hK (.agg #[.int .i64 o.ver, .bool o.gone, .string o.ob.kind, .string o.ob.name, .int .i64 o.ob.ver, .int .i64 o.ob.born, .string o.ob.text, .bool o.ob.ending, .slice ad o.ob.hn cap]) w2 (fun g hg hk => ⟨fun e => (updT_ne (by omega)).trans (hI.1 (by rw [← hk 0 (by omega)]; exact e)), fun e => (updT_ne (by omega)).trans (hI.2.1 (by rw [← hk 1 (by omega)]; exact e)), fun e => (by rw [hg] at e; cases e), fun _ => ⟨o, ad, cap, b', q2, d2, w2, updT_same, s2, fun h0 => ⟨Nat.le_trans hbX.size (l2 h0).1, (l2 h0).2⟩, hS.step f2 r2, (Fr.of_below hbX).trans f2, o2, fun _ => rfl, fun e3 => (by rw [hk 3 (by omega), hf3] at e3; cases e3)⟩⟩)
      simpa [updT] using h
    · obtain ⟨o, ad, cap, b', q2, d2, w2, e2, s2, l2, r2, f2, o2, n3, y3⟩ := hI.2.2.2 (hwt 2 ⟨_, rfl, ⟨2, .data⟩, by simp, rfl, rfl⟩)
      obtain rfl := n3 hfi
      have h := hK (.slice (some ⟨X.heap.size, 0, none⟩) 1 1) (X.alloc (.cells #[.int .i64 o.ver, .bool o.gone, .string o.ob.kind, .string o.ob.name, .int .i64 o.ob.ver, .int .i64 o.ob.born, .string o.ob.text, .bool o.ob.ending, .slice ad o.ob.hn cap] 41)) (fun g hg hk => ⟨fun e => (updT_ne (by omega)).trans (hI.1 (by rw [← hk 0 (by omega)]; exact e)), fun e => (updT_ne (by omega)).trans (hI.2.1 (by rw [← hk 1 (by omega)]; exact e)), fun e => (by rw [hk 2 (by omega), hwt 2 ⟨_, rfl, ⟨2, .data⟩, by simp, rfl, rfl⟩] at e; cases e), fun _ => ⟨o, ad, cap, b', q2, d2, X, (updT_ne (by omega)).trans e2, s2, l2, r2, f2, o2, fun e3 => (by rw [hg] at e3; cases e3), fun _ => ⟨updT_same, rfl⟩⟩⟩)
      refine wpOp_of rfl rfl ?_
      clear hK hI hcell
      go_simp
      simpa [updT, e2] using h
  · intro f t X K hI hall hK
    have e0 := hI.1 (hall 0 (by omega))
    have e1 := hI.2.1 (hall 1 (by omega))
    obtain ⟨o, ad, cap, b', q2, d2, w2, e2, s2, l2, r2, f2, o2, n3, y3⟩ := hI.2.2.2 (hall 2 (by omega))
    obtain ⟨e3, rfl⟩ := y3 (hall 3 (by omega))
    have hzf := f2.size
    have hSY := r2.below (Y_below w2 (.cells #[.int .i64 o.ver, .bool o.gone, .string o.ob.kind, .string o.ob.name, .int .i64 o.ob.ver, .int .i64 o.ob.born, .string o.ob.text, .bool o.ob.ending, .slice ad o.ob.hn cap] 41))
    have hrow2 := ownsRow_frR hrow (f2.thenBelow ((Y_below w2 (.cells #[.int .i64 o.ver, .bool o.gone, .string o.ob.kind, .string o.ob.name, .int .i64 o.ob.ver, .int .i64 o.ob.born, .string o.ob.text, .bool o.ob.ending, .slice ad o.ob.hn cap] 41)).mono f2.size)) (by omega)
    refine wpOp_of rfl rfl (op_app (.tmp 35) (.tmp 37) 23 rfl (w.heap.size + 3) 41 i0 _ 9 112 Tryz.underlying23 hi0 hz0 hz1 hz2 rfl (by decide) v2 x.hn (rowCells (x.hn * 9) c) e1 hrow2 ⟨w2.heap.size, 0, none⟩ 1 1 [.int .i64 o.ver, .bool o.gone, .string o.ob.kind, .string o.ob.name, .int .i64 o.ob.ver, .int .i64 o.ob.born, .string o.ob.text, .bool o.ob.ending, .slice ad o.ob.hn cap] e3 rfl (news_alloc w2 [.int .i64 o.ver, .bool o.gone, .string o.ob.kind, .string o.ob.name, .int .i64 o.ob.ver, .int .i64 o.ob.born, .string o.ob.text, .bool o.ob.ending, .slice ad o.ob.hn cap] 41) (by simp [Value.oneCell']) (by unfold maxLen; omega) (by omega) (by simp; omega) ?_)
    intro v6 w6 own6 grow6 at6
    obtain ⟨c6, f6⟩ := cell_grown (o := 3) grow6 (fun g hg => (hrow.lt g hg).1) (by simp; omega) (hSY.bk 3 _ rfl) (hSY.bt 3 (by omega)).2
    refine hK _ _ ⟨t 2, t 3, v6, o, q2, d2, ?_, own_slice own6, c6, f6, RlS.addC S hB hat r2 f2 s2 l2 own6 grow6 at6, o2⟩
    simp [Act.put, e0, e1]
  · rintro A Y K ⟨u1, u2, u3, o, q2, d2, rfl, s6, c6, f6, hR, hO⟩ hK
    have h := hK _ Y ⟨u1, u2, u3, o, q2, d2, rfl, s6, c6, f6, hR, hO⟩
    refine wpOp_of rfl rfl ?_
    clear hK hcell
    go_simp
    simpa using h
  · rintro A Y K ⟨u1, u2, _, o, q2, d2, rfl, ⟨a3, n3, c3, rfl⟩, c6, f6, hR, hO⟩ hK
    have h := hK _ _ ⟨u1, u2, _, o, q2, d2, rfl, hR, hO⟩
    refine wpOp_of rfl rfl ?_
    clear hK hcell
    go_simp
    simpa using h
  · rintro A Y ⟨u1, u2, u3, o, q2, d2, rfl, hR, hO⟩
    exact hQ u1 u2 u3 o q2 d2 Y hR hO
set_option maxRecDepth 100000 in
set_option maxHeartbeats 4000000 in
theorem rlReg13 (p0 p1 p2 p3 p6 p7 p8 p9 p10 p11 p12 p13 p14 p15 p16 p17 p18 p19 p20 p21 p22 p23 p24 p25 p26 p27 p28 p29 p30 p31 p32 p33 p34 p35 p36 p37 p38 p39 p40 p41 p42 p43 p44 p45 p46 p47 p48 p49 p50 p51 p52 : Value) (w W : World) (x : Bk) (q : ByteArray) (d : Bool) (v1 v2 v3 : Value) (S : RlS w W x q d v1 v2 v3) (hE : ErC w) (hw2 : 2 < w.heap.size + 2) (hq : (q.size : Int) ≤ 1048576) (hn : x.tn ≤ 1048576) (Q : Exit → Act → World → Prop)
    (hQ : ∀ (u1 u2 u3 : Value) (o : Ti) (q2 : ByteArray) (d2 : Bool) (X : World), RlS w X { x with tn := x.tn + 1, ts := updF x.ts x.tn o } q2 d2 v1 v2 u3 → TiR q d o q2 d2 → Q .normal ⟨#[p0, p1, p2, p3, (.pointer (some ⟨w.heap.size + 1, 0, none⟩)), (.pointer (some ⟨w.heap.size + 2, 0, none⟩)), p6, p7, p8, p9, p10, p11, p12, p13, p14, p15, p16, p17, p18, p19, p20, p21, p22, p23, p24, p25, p26, p27, p28, p29, p30, p31, p32, p33, p34, p35, p36, p37, p38, p39, p40, p41, (.pointer (some ⟨w.heap.size + 1, 4, none⟩)), v3, u1, u2, u3, (.pointer (some ⟨w.heap.size + 1, 4, none⟩)), p48, p49, p50, p51, p52], []⟩ X) :
    Code.wp Tryz.prog (Code.region 13 #[{ dst := some 42, op := Op.fieldAddr 26 (Operand.tmp 4) 4, type := 0, pos := "l9_book_form.go:103", after := #[], guard := none }, { dst := some 43, op := Op.load 24 (Operand.tmp 42), type := 24, pos := "l9_book_form.go:103", after := #[{ on := 0, ground := Ground.data }], guard := none }, { dst := some 44, op := Op.call { callee := Callee.value (Operand.func 35), args := #[Operand.tmp 5], argTypes := #[60] }, type := 45, pos := "l9_book_form.go:103", after := #[], guard := none }, { dst := some 45, op := Op.buildSlice 24 1 #[(0, Operand.tmp 44)], type := 24, pos := "l9_book_form.go:103", after := #[{ on := 2, ground := Ground.data }], guard := none }, { dst := some 46, op := Op.call { callee := Callee.builtin Builtin.append, args := #[Operand.tmp 43, Operand.tmp 45], argTypes := #[24, 24] }, type := 24, pos := "l9_book_form.go:103", after := #[{ on := 1, ground := Ground.data }, { on := 3, ground := Ground.data }, { on := 2, ground := Ground.chain }], guard := none }, { dst := some 47, op := Op.fieldAddr 26 (Operand.tmp 4) 4, type := 0, pos := "l9_book_form.go:103", after := #[{ on := 0, ground := Ground.phase }, { on := 1, ground := Ground.phase }, { on := 2, ground := Ground.phase }, { on := 3, ground := Ground.phase }, { on := 4, ground := Ground.phase }], guard := none }, { dst := none, op := Op.store 24 (Operand.tmp 47) (Operand.tmp 46), type := 0, pos := "l9_book_form.go:103", after := #[{ on := 5, ground := Ground.data }, { on := 4, ground := Ground.data }, { on := 4, ground := Ground.chain }, { on := 0, ground := Ground.phase }, { on := 1, ground := Ground.phase }, { on := 2, ground := Ground.phase }, { on := 3, ground := Ground.phase }, { on := 4, ground := Ground.phase }], guard := none }] true) Q ⟨#[p0, p1, p2, p3, (.pointer (some ⟨w.heap.size + 1, 0, none⟩)), (.pointer (some ⟨w.heap.size + 2, 0, none⟩)), p6, p7, p8, p9, p10, p11, p12, p13, p14, p15, p16, p17, p18, p19, p20, p21, p22, p23, p24, p25, p26, p27, p28, p29, p30, p31, p32, p33, p34, p35, p36, p37, p38, p39, p40, p41, p42, p43, p44, p45, p46, p47, p48, p49, p50, p51, p52], []⟩ W := by
  obtain ⟨i0, hi0, hz0, hz1, hz2⟩ := info_parts Tryz.info45r
  obtain ⟨A1, C1, h1, A2, C2, h2, hB⟩ := S.bd
  obtain ⟨c, hrow, hat⟩ := hB.t
  have hz := S.sz
  have hcell : ∀ (f : Nat → Bool) (t : Nat → Value) X, (fun (f : Nat → Bool) (t : Nat → Value) (X : World) => (f 0 = true → t 0 = (.pointer (some ⟨w.heap.size + 1, 4, none⟩))) ∧ (f 1 = true → t 1 = v3) ∧ (f 2 = false → f 3 = false ∧ RlS w X x q d v1 v2 v3 ∧ Below W.heap.size W X) ∧ (f 2 = true → ∃ (o : Ti) (q2 : ByteArray) (d2 : Bool) (w2 : World), t 2 = .agg #[.string o.client, .int .i64 o.num, .string o.print, .int .i64 o.code, .int .i64 o.ver] ∧ RlS w w2 x q2 d2 v1 v2 v3 ∧ Fr (w.heap.size + 2) (w.heap.size + 2 + 1) W w2 ∧ TiR q d o q2 d2 ∧ (f 3 = false → X = w2) ∧ (f 3 = true → t 3 = .slice (some ⟨w2.heap.size, 0, none⟩) 1 1 ∧ X = w2.alloc (.cells #[.string o.client, .int .i64 o.num, .string o.print, .int .i64 o.code, .int .i64 o.ver] 45)))) f t X → X.cell? ⟨w.heap.size + 1, 4, none⟩ = some v3 := by
    rintro f t X ⟨_, _, k2, k3⟩
    cases h2 : f 2 with
    | false => exact (k2 h2).2.1.bk 4 _ rfl
    | true =>
      obtain ⟨o, q2, d2, w2, e2, r2, f2, o2, n3, y3⟩ := k3 h2
      cases h3 : f 3 with
      | false => rw [n3 h3]; exact r2.bk 4 _ rfl
      | true => rw [(y3 h3).2]; exact (r2.below (Y_below w2 _)).bk 4 _ rfl
  refine regionP (by kernel_rfl) 4 (fun t : Nat → Value => #[p0, p1, p2, p3, (.pointer (some ⟨w.heap.size + 1, 0, none⟩)), (.pointer (some ⟨w.heap.size + 2, 0, none⟩)), p6, p7, p8, p9, p10, p11, p12, p13, p14, p15, p16, p17, p18, p19, p20, p21, p22, p23, p24, p25, p26, p27, p28, p29, p30, p31, p32, p33, p34, p35, p36, p37, p38, p39, p40, p41, t 0, t 1, t 2, t 3, p46, p47, p48, p49, p50, p51, p52]) (fun i => match i with | 0 => p42 | 1 => p43 | 2 => p44 | _ => p45)
    (fun (f : Nat → Bool) (t : Nat → Value) (X : World) => (f 0 = true → t 0 = (.pointer (some ⟨w.heap.size + 1, 4, none⟩))) ∧ (f 1 = true → t 1 = v3) ∧ (f 2 = false → f 3 = false ∧ RlS w X x q d v1 v2 v3 ∧ Below W.heap.size W X) ∧ (f 2 = true → ∃ (o : Ti) (q2 : ByteArray) (d2 : Bool) (w2 : World), t 2 = .agg #[.string o.client, .int .i64 o.num, .string o.print, .int .i64 o.code, .int .i64 o.ver] ∧ RlS w w2 x q2 d2 v1 v2 v3 ∧ Fr (w.heap.size + 2) (w.heap.size + 2 + 1) W w2 ∧ TiR q d o q2 d2 ∧ (f 3 = false → X = w2) ∧ (f 3 = true → t 3 = .slice (some ⟨w2.heap.size, 0, none⟩) 1 1 ∧ X = w2.alloc (.cells #[.string o.client, .int .i64 o.num, .string o.print, .int .i64 o.code, .int .i64 o.ver] 45))))
    (fun (A : Act) (Y : World) => ∃ (u1 u2 u3 : Value) (o : Ti) (q2 : ByteArray) (d2 : Bool), A = ⟨#[p0, p1, p2, p3, (.pointer (some ⟨w.heap.size + 1, 0, none⟩)), (.pointer (some ⟨w.heap.size + 2, 0, none⟩)), p6, p7, p8, p9, p10, p11, p12, p13, p14, p15, p16, p17, p18, p19, p20, p21, p22, p23, p24, p25, p26, p27, p28, p29, p30, p31, p32, p33, p34, p35, p36, p37, p38, p39, p40, p41, (.pointer (some ⟨w.heap.size + 1, 4, none⟩)), v3, u1, u2, u3, p47, p48, p49, p50, p51, p52], []⟩ ∧ (∃ a3 n3 c3, u3 = .slice a3 n3 c3) ∧ Y.cell? ⟨w.heap.size + 1, 4, none⟩ = some v3 ∧ Y.frozen? ⟨w.heap.size + 1, 4, none⟩ = false ∧ RlS w (Y.setCell ⟨w.heap.size + 1, 4, none⟩ u3) { x with tn := x.tn + 1, ts := updF x.ts x.tn o } q2 d2 v1 v2 u3 ∧ TiR q d o q2 d2)
    (fun (A : Act) (Y : World) => ∃ (u1 u2 u3 : Value) (o : Ti) (q2 : ByteArray) (d2 : Bool), A = ⟨#[p0, p1, p2, p3, (.pointer (some ⟨w.heap.size + 1, 0, none⟩)), (.pointer (some ⟨w.heap.size + 2, 0, none⟩)), p6, p7, p8, p9, p10, p11, p12, p13, p14, p15, p16, p17, p18, p19, p20, p21, p22, p23, p24, p25, p26, p27, p28, p29, p30, p31, p32, p33, p34, p35, p36, p37, p38, p39, p40, p41, (.pointer (some ⟨w.heap.size + 1, 4, none⟩)), v3, u1, u2, u3, (.pointer (some ⟨w.heap.size + 1, 4, none⟩)), p48, p49, p50, p51, p52], []⟩ ∧ (∃ a3 n3 c3, u3 = .slice a3 n3 c3) ∧ Y.cell? ⟨w.heap.size + 1, 4, none⟩ = some v3 ∧ Y.frozen? ⟨w.heap.size + 1, 4, none⟩ = false ∧ RlS w (Y.setCell ⟨w.heap.size + 1, 4, none⟩ u3) { x with tn := x.tn + 1, ts := updF x.ts x.tn o } q2 d2 v1 v2 u3 ∧ TiR q d o q2 d2)
    (fun (A : Act) (Y : World) => ∃ (u1 u2 u3 : Value) (o : Ti) (q2 : ByteArray) (d2 : Bool), A = ⟨#[p0, p1, p2, p3, (.pointer (some ⟨w.heap.size + 1, 0, none⟩)), (.pointer (some ⟨w.heap.size + 2, 0, none⟩)), p6, p7, p8, p9, p10, p11, p12, p13, p14, p15, p16, p17, p18, p19, p20, p21, p22, p23, p24, p25, p26, p27, p28, p29, p30, p31, p32, p33, p34, p35, p36, p37, p38, p39, p40, p41, (.pointer (some ⟨w.heap.size + 1, 4, none⟩)), v3, u1, u2, u3, (.pointer (some ⟨w.heap.size + 1, 4, none⟩)), p48, p49, p50, p51, p52], []⟩ ∧ RlS w Y { x with tn := x.tn + 1, ts := updF x.ts x.tn o } q2 d2 v1 v2 u3 ∧ TiR q d o q2 d2)
    rfl (by kernel_rfl) (Or.inl (by kernel_rfl)) (by kernel_rfl) (by kernel_rfl) rfl ?_ ?_ ?_ ?_ ?_ ?_
  · intro f hf
    exact ⟨fun h => (by rw [hf] at h; cases h), fun h => (by rw [hf] at h; cases h), fun _ => ⟨hf 3, S.below ⟨rfl, rfl, rfl, Nat.le_refl _, fun _ _ => rfl⟩, ⟨rfl, rfl, rfl, Nat.le_refl _, fun _ _ => rfl⟩⟩, fun h => (by rw [hf] at h; cases h)⟩
  · intro i hi f t X K hI hfi hwt hK
    rcases (show i = 0 ∨ i = 1 ∨ i = 2 ∨ i = 3 by omega) with rfl | rfl | rfl | rfl
    · have h := hK (.pointer (some ⟨w.heap.size + 1, 4, none⟩)) X (fun g hg hk => ⟨fun _ => updT_same, fun e => (updT_ne (by omega)).trans (hI.2.1 (by rw [← hk 1 (by omega)]; exact e)), fun e => (by obtain ⟨k1, k2, k3⟩ := hI.2.2.1 (by rw [← hk 2 (by omega)]; exact e); exact ⟨by rw [hk 3 (by omega)]; exact k1, k2, k3⟩), fun e => (by obtain ⟨o, q2, d2, w2, e2, r2, f2, o2, n3, y3⟩ := hI.2.2.2 (by rw [← hk 2 (by omega)]; exact e); exact ⟨o, q2, d2, w2, (updT_ne (by omega)).trans e2, r2, f2, o2, fun e3 => n3 (by rw [← hk 3 (by omega)]; exact e3), fun e3 => (by obtain ⟨k1, k2⟩ := y3 (by rw [← hk 3 (by omega)]; exact e3); exact ⟨(updT_ne (by omega)).trans k1, k2⟩)⟩)⟩)
      refine wpOp_of rfl rfl ?_
      clear hK hI hcell
      go_simp
      simpa [updT] using h
    · have e0 : t 0 = (.pointer (some ⟨w.heap.size + 1, 4, none⟩)) := hI.1 (hwt 0 ⟨_, rfl, ⟨0, .data⟩, by simp, rfl, rfl⟩)
      have cX := hcell f t X hI
      have h := hK v3 X (fun g hg hk => ⟨fun e => (updT_ne (by omega)).trans (hI.1 (by rw [← hk 0 (by omega)]; exact e)), fun _ => updT_same, fun e => (by obtain ⟨k1, k2, k3⟩ := hI.2.2.1 (by rw [← hk 2 (by omega)]; exact e); exact ⟨by rw [hk 3 (by omega)]; exact k1, k2, k3⟩), fun e => (by obtain ⟨o, q2, d2, w2, e2, r2, f2, o2, n3, y3⟩ := hI.2.2.2 (by rw [← hk 2 (by omega)]; exact e); exact ⟨o, q2, d2, w2, (updT_ne (by omega)).trans e2, r2, f2, o2, fun e3 => n3 (by rw [← hk 3 (by omega)]; exact e3), fun e3 => (by obtain ⟨k1, k2⟩ := y3 (by rw [← hk 3 (by omega)]; exact e3); exact ⟨(updT_ne (by omega)).trans k1, k2⟩)⟩)⟩)
      refine wpOp_of rfl rfl ?_
      clear hK hI hcell
      go_simp
      simpa [updT, e0] using h
    · obtain ⟨hf3, hS, hbX⟩ := hI.2.2.1 hfi
      have hzX := hS.sz
      have hcall := ticketR_any (w.heap.size + 2) q d hq X hS.rd (by omega) (hS.er hE) hw2
      refine wpOp_of rfl rfl ?_
      clear hcell
      go_simp
      go_at_call 35
      refine hcall.mono ?_
      rintro e w2 ⟨o, q2, d2, rfl, r2, f2, o2⟩
      have h := hK (.agg #[.string o.client, .int .i64 o.num, .string o.print, .int .i64 o.code, .int .i64 o.ver]) w2 (fun g hg hk => ⟨fun e => (updT_ne (by omega)).trans (hI.1 (by rw [← hk 0 (by omega)]; exact e)), fun e => (updT_ne (by omega)).trans (hI.2.1 (by rw [← hk 1 (by omega)]; exact e)), fun e => (by rw [hg] at e; cases e), fun _ => ⟨o, q2, d2, w2, updT_same, hS.step f2 r2, (Fr.of_below hbX).trans f2, o2, fun _ => rfl, fun e3 => (by rw [hk 3 (by omega), hf3] at e3; cases e3)⟩⟩)
      simpa [updT] using h
    · obtain ⟨o, q2, d2, w2, e2, r2, f2, o2, n3, y3⟩ := hI.2.2.2 (hwt 2 ⟨_, rfl, ⟨2, .data⟩, by simp, rfl, rfl⟩)
      obtain rfl := n3 hfi
      have h := hK (.slice (some ⟨X.heap.size, 0, none⟩) 1 1) (X.alloc (.cells #[.string o.client, .int .i64 o.num, .string o.print, .int .i64 o.code, .int .i64 o.ver] 45)) (fun g hg hk => ⟨fun e => (updT_ne (by omega)).trans (hI.1 (by rw [← hk 0 (by omega)]; exact e)), fun e => (updT_ne (by omega)).trans (hI.2.1 (by rw [← hk 1 (by omega)]; exact e)), fun e => (by rw [hk 2 (by omega), hwt 2 ⟨_, rfl, ⟨2, .data⟩, by simp, rfl, rfl⟩] at e; cases e), fun _ => ⟨o, q2, d2, X, (updT_ne (by omega)).trans e2, r2, f2, o2, fun e3 => (by rw [hg] at e3; cases e3), fun _ => ⟨updT_same, rfl⟩⟩⟩)
      refine wpOp_of rfl rfl ?_
      clear hK hI hcell
      go_simp
      simpa [updT, e2] using h
  · intro f t X K hI hall hK
    have e0 := hI.1 (hall 0 (by omega))
    have e1 := hI.2.1 (hall 1 (by omega))
    obtain ⟨o, q2, d2, w2, e2, r2, f2, o2, n3, y3⟩ := hI.2.2.2 (hall 2 (by omega))
    obtain ⟨e3, rfl⟩ := y3 (hall 3 (by omega))
    have hzf := f2.size
    have hSY := r2.below (Y_below w2 (.cells #[.string o.client, .int .i64 o.num, .string o.print, .int .i64 o.code, .int .i64 o.ver] 45))
    have hrow2 := ownsRow_frR hrow (f2.thenBelow ((Y_below w2 (.cells #[.string o.client, .int .i64 o.num, .string o.print, .int .i64 o.code, .int .i64 o.ver] 45)).mono f2.size)) (by omega)
    refine wpOp_of rfl rfl (op_app (.tmp 43) (.tmp 45) 24 rfl (w.heap.size + 3) 45 i0 _ 5 56 Tryz.underlying24 hi0 hz0 hz1 hz2 rfl (by decide) v3 x.tn (rowCells (x.tn * 5) c) e1 hrow2 ⟨w2.heap.size, 0, none⟩ 1 1 [.string o.client, .int .i64 o.num, .string o.print, .int .i64 o.code, .int .i64 o.ver] e3 rfl (news_alloc w2 [.string o.client, .int .i64 o.num, .string o.print, .int .i64 o.code, .int .i64 o.ver] 45) (by simp [Value.oneCell']) (by unfold maxLen; omega) (by omega) (by simp; omega) ?_)
    intro v6 w6 own6 grow6 at6
    obtain ⟨c6, f6⟩ := cell_grown (o := 4) grow6 (fun g hg => (hrow.lt g hg).1) (by simp; omega) (hSY.bk 4 _ rfl) (hSY.bt 4 (by omega)).2
    refine hK _ _ ⟨t 2, t 3, v6, o, q2, d2, ?_, own_slice own6, c6, f6, RlS.addT S hB hat r2 f2 own6 grow6 at6, o2⟩
    simp [Act.put, e0, e1]
  · rintro A Y K ⟨u1, u2, u3, o, q2, d2, rfl, s6, c6, f6, hR, hO⟩ hK
    have h := hK _ Y ⟨u1, u2, u3, o, q2, d2, rfl, s6, c6, f6, hR, hO⟩
    refine wpOp_of rfl rfl ?_
    clear hK hcell
    go_simp
    simpa using h
  · rintro A Y K ⟨u1, u2, _, o, q2, d2, rfl, ⟨a3, n3, c3, rfl⟩, c6, f6, hR, hO⟩ hK
    have h := hK _ _ ⟨u1, u2, _, o, q2, d2, rfl, hR, hO⟩
    refine wpOp_of rfl rfl ?_
    clear hK hcell
    go_simp
    simpa using h
  · rintro A Y ⟨u1, u2, u3, o, q2, d2, rfl, hR, hO⟩
    exact hQ u1 u2 u3 o q2 d2 Y hR hO
end Go.Proofs.YtkfbclopkgnacaaGreatDoor
