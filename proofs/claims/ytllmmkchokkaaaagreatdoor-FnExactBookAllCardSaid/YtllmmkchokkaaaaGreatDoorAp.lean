import Derived.Test.YtllmmkchokkaaaaGreatDoorRows
import Derived.WalkKit
import Derived.WalkSpells
import Derived.WalkLawsBesides
import Derived.Laws.IdiomStrings
import Derived.Deep.RegionWith
import Derived.Deep.QuietTactic
import Derived.BigQuiet
namespace Go.Proofs.YtllmmkchokkaaaaGreatDoor
open Go.RowKit
theorem Za {P:Prop} (h:P:=by omega):P:=h
theorem Zb {P:Prop} (h:P:=by decide):P:=h
theorem Zc {P:Prop} (h:P:=by simp;omega):P:=h
theorem Zd {P:Prop} (h:P:=by simp):P:=h
theorem Ze {P:Prop} (h:P:=by first|decide|simp):P:=h
theorem Zf {P:Prop} (h:P:=by kernel_rfl):P:=h
theorem Zg {P:Prop} (h:P:=by repeat (first|with_reducible exact FrP.refl _ _|with_reducible refine FrP.setNew ?_ (by (show _≤_∨_<_);simp only [World.size_setCell,World.size_alloc];omega) _|with_reducible refine FrP.trans ?_ (FrP.of_below (below_alloc _ _)))):P:=h
theorem Zh {P:Prop} (h:P:=by show w.1.size<_;omega):P:=h
theorem Zi {P:Prop} (h:P:=by first|exact hf.k|exact hf.n|exact hf.h):P:=h
theorem Zj {P:Prop} (h:P:=by first|omega|(simp;omega)):P:=h
theorem Zk {P:Prop} (h:P:=by show b<_;omega):P:=h
theorem Zl {P:Prop} (h:P:=by show wr.1.size<_;omega):P:=h
theorem Zm {P:Prop} (h:P:=by simp;try omega):P:=h
theorem Zn {P:Prop} (h:P:=by intro j u hj;obtain ⟨h1,rfl⟩:=rowCells_get hj;obtain ⟨b',off',e',_,e3,e4⟩:=HC.out.at_ j h1;cases e';rw [show ((⟨b,off,none⟩:Addr).add j)=⟨b,off+j,none⟩ by simp [Addr.add],hb1.cell (p:=⟨b,off+j,none⟩) Zk];exact e4):P:=h
theorem Zo {P:Prop} (h:P:=by show w.1.size+1+1<_;omega):P:=h
theorem Zp {P:Prop} (h:P:=by rw [kp 11 Zb];exact f11):P:=h
theorem Zq {P:Prop} (h:P:=by rw [kp 12 Zb];exact f12):P:=h
theorem Zr {P:Prop} (h:P:=by simp [results,Tryz.results75,go_sem,r0,r1,r2,r3,r4,r5,r6,r7,r8,z1,(show w.1.size+1+1<w1.1.size+1 by omega),World.cell?_alloc_lt]):P:=h
theorem Zs {P:Prop} (h:P:=by unfold maxLen;omega):P:=h
theorem Zt {P:Prop} (h:P:=by rw [kp 1 Zb];exact f1):P:=h
theorem Zu {P:Prop} (h:P:=by rw [kp 2 Zb];exact f2):P:=h
theorem Zv {P:Prop} (h:P:=by rw [kp 3 Zb];exact f3):P:=h
theorem Zw {P:Prop} (h:P:=by rw [kp 4 Zb];exact f4):P:=h
theorem Zx {P:Prop} (h:P:=by rw [kp 5 Zb];exact f5):P:=h
theorem Zy {P:Prop} (h:P:=by rw [kp 7 Zb];exact f7):P:=h
theorem Zz {P:Prop} (h:P:=by rw [kp 8 Zb];exact f8):P:=h
theorem Zaa {P:Prop} (h:P:=by rw [kp 0 Zb];exact f0):P:=h
theorem Zab {P:Prop} (h:P:=by show w.1.size+1<_;omega):P:=h
theorem Zac {P:Prop} (h:P:=by rw [World.cell?_alloc_past _ _ _ Zd];simp):P:=h
theorem Zad {P:Prop} (h:P:=by rw [kp 14 Zb,kp 6 Zb,kp 9 Zb,kp 13 Zb];exact f17):P:=h
theorem Zae {P:Prop} (h:P:=by rw [kp 6 Zb];exact f6):P:=h
theorem Zaf {P:Prop} (h:P:=by rw [kp 9 Zb];exact f9):P:=h
theorem Zag {P:Prop} (h:P:=by rw [kp 10 Zb,kp 13 Zb,kp 6 Zb,kp 9 Zb];exact f10):P:=h
theorem Zah {P:Prop} (h:P:=by first|(exact congrArg (Value.int .i64) (by first|rfl|(simp only [mkCh];omega)))|(exact congrArg Value.bool (rem3 Za).symm)):P:=h
theorem Zai {P:Prop} (h:P:=by rw [kp 15 Zb,kp 14 Zb];exact f18):P:=h
theorem Zaj {P:Prop} (h:P:=by simpa using hb):P:=h
theorem Zak {P:Prop} (h:P:=by assumption):P:=h
theorem Zal {P:Prop} (h:P:=by simp [results,Tryz.results75,go_sem,r0,r1,r2,r3,r4,r5,r6,r7,r8,z1,(show w.1.size+1+1<w1.1.size+1 by omega),(show w.1.size+1+1<w1.1.size+1+1 by omega),World.cell?_alloc_lt]):P:=h
theorem Zam {P:Prop} (h:P:=by obtain ⟨q,hq⟩:=h.2;rw [hq];exact below_drewN' _ _):P:=h
theorem Zan {P:Prop} (h:P:=by simp;have:=hb.size;omega):P:=h
theorem Zao {P:Prop} (h:P:=by intro j hj;rw [rowCells_len] at hj;obtain ⟨u,hu⟩:=hr1.out.has j hj;rw [Nat.zero_add,hu];rfl):P:=h
theorem Zap {P:Prop} (h:P:=by show b'<_;omega):P:=h
theorem Zaq {P:Prop} (h:P:=by intro v hv;obtain ⟨i,hi,rfl⟩:=List.mem_map.1 hv;exact HC.out.one i (by simpa using hi)):P:=h
theorem Zar {P:Prop} (h:P:=by rw [kp 10 Zb];exact f10):P:=h
theorem Zas {P:Prop} (h:P:=by rw [kp 10 Zb];exact f13):P:=h
theorem Zat {P:Prop} (h:P:=by rw [kp 14 Zb];exact f14):P:=h
theorem Zau {P:Prop} (h:P:=by repeat (first|with_reducible exact FrP.refl _ _|with_reducible refine FrP.setNew ?_ (by (show _≤_∨_<_);dsimp only;omega) _)):P:=h
theorem Zav {P:Prop} (h:P:=by first|exact r0.lt|(simp only [World.size_setCell];exact r0.lt)):P:=h
theorem Zaw {P:Prop} (h:P:=by first|exact r1.lt|(simp only [World.size_setCell];exact r1.lt)):P:=h
theorem Zax {P:Prop} (h:P:=by have:=HON.out;omega):P:=h
theorem Zay {P:Prop} (h:P:=by rw [kp 13 Zb];exact f13):P:=h
theorem Zaz {P:Prop} (h:P:=by rw [kp 15 Zb];exact f15):P:=h
theorem Zba {P:Prop} (h:P:=by rw [kp 15 Zb];exact f16):P:=h
theorem Zbb {P:Prop} (h:P:=by first|(exact congrArg (Value.int .i64) (by first|rfl|(simp only [mkOb];omega)))|(exact congrArg Value.bool (rem3 Za).symm)):P:=h
theorem Zbc {P:Prop} (h:P:=by first|(exact congrArg (Value.int .i64) (by first|rfl|(simp only [mkTi];omega)))|(exact congrArg Value.bool (rem3 Za).symm)):P:=h
theorem Zbd {P:Prop} (h:P:=by rw [hz2];omega):P:=h
theorem Zbe {P:Prop} (h:P:=by rw [kp 14 Zb];intro h;exact absurd (f17 h).2.2 (by rw [hui];decide)):P:=h
theorem Zbf {P:Prop} (h:P:=by simpa using hB1):P:=h
theorem Zbg {P:Prop} (h:P:=by simp [results,Tryz.results75,go_sem,r0,r1,r2,r3,r4,r5,r6,r7,r8]):P:=h
theorem Zbh {P:Prop} (h:P:=by cases h):P:=h
theorem Zbi {P:Prop} (h:P:=by simp [Value.oneCell']):P:=h
theorem Zbj {P:Prop} (h:P:=by show w.1.size≤w.1.size+1+1;omega):P:=h
theorem Zbk {P:Prop} (h:P:=by rcases h with ⟨h,_⟩|⟨i,hi,_⟩<;>exact absurd ‹_› (Nat.not_lt_zero _)):P:=h
theorem Zbl {P:Prop} (h:P:=by simp [results,Tryz.results75,go_sem,r0,r1,r2,r3,r4,r5,r6,r7,r8,z1]):P:=h
theorem Zbm {P:Prop} (h:P:=by show (x.hn:Int)≤_;omega):P:=h
theorem Zbn {P:Prop} (h:P:=by have:=HB.out.size;first|omega|(simp;omega)):P:=h
theorem Zbo {P:Prop} (h:P:=by have:=szOut_lt Zak;omega):P:=h
theorem Zbp {P:Prop} (h:P:=by first|exact r2.lt|(simp only [World.size_setCell];exact r2.lt)):P:=h
theorem Zbq {P:Prop} (h:P:=by rw [hc];decide):P:=h
theorem Zbr {P:Prop} (h:P:=by simp [results,Tryz.results154,go_sem,q0,q1,q2,q3,q4,q5,q6,z1]):P:=h
theorem Zbs {P:Prop} (h:P:=by exact Nat.le_trans hh1 (GW.prop _).size):P:=h
theorem Zbt {n:Nat}:n≤n:=Nat.le_refl n
theorem Zbu {w:World} {o:Obj}:Below w.heap.size w (w.alloc o):=(Below.refl _ _).alloc (Nat.le_refl _) o
theorem Zbv {B w}:Below B w w:=Below.refl B w
theorem Zbw {n:Nat}:0≤n:=Nat.zero_le n
end Go.Proofs.YtllmmkchokkaaaaGreatDoor
