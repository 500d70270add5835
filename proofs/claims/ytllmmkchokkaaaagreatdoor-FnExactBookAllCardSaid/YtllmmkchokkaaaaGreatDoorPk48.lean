import Derived.Test.YtllmmkchokkaaaaGreatDoorPk21
import Derived.Test.YtllmmkchokkaaaaGreatDoorPk34
set_option maxRecDepth 100000
namespace Go.Proofs.YtllmmkchokkaaaaGreatDoor
open Go.RowKit Go.Maps
theorem regionT {P:Program} {id:Nat} {ops:Array Oper} {Q:Exit→Act→World→Prop} {a0:Act} {W:World} (hm:P.follows .mixedOrders=true) (n m:Nat)
  (mk:(Nat→Value)→Array Value) (t0:Nat→Value) (G:Nat→Value→Prop) (B0 B1:Nat→World→Prop)
  (hn:ops.size=n) (hmn:m+1<n) (hord:((List.range ops.size).all fun i=>match ops[i]? with|some o=>o.after.all (fun e=>!(Region.binds .any e)||decide (e.on<i))|none=>true)=true)
  (hbox:Waits ops (m+1) m)
  (st0:∀ z X Y,B0 z X→z<X.1.size→Below X.1.size X Y→B0 z Y) (st1:∀ z X Y,B1 z X→z<X.1.size→Below X.1.size X Y→B1 z Y)
  (h0:a0=⟨mk t0,[]⟩)
  (sg:∀ i,i<n→¬i=m→¬i=m+1→∀ (t:Nat→Value) X K,Below W.1.size W X→(∀ j,Waits ops i j→¬j=m→¬j=m+1→G j (t j))→(∀ v Y,G i v→Below X.1.size X Y→K ⟨mk (updT t i v),[]⟩ Y)→wpOp P ops Q i K ⟨mk t,[]⟩ X)
  (sa:∀ (t:Nat→Value) X K,(∀ Y,B0 X.1.size Y→Below X.1.size X Y→X.1.size<Y.1.size→K ⟨mk (updT t m (.pointer (some ⟨X.1.size,0,none⟩))),[]⟩ Y)→wpOp P ops Q m K ⟨mk t,[]⟩ X)
  (ss:∀ (t:Nat→Value) X K z,t m=.pointer (some ⟨z,0,none⟩)→B0 z X→z<X.1.size→(∀ j,Waits ops (m+1) j→¬j=m→¬j=m+1→G j (t j))→(∀ v Y,B1 z Y→FrP (fun q=>q=z) X Y→K ⟨mk (updT t (m+1) v),[]⟩ Y)→wpOp P ops Q (m+1) K ⟨mk t,[]⟩ X)
  (hfin:∀ t X z,Below W.1.size W X→(∀ i,i<n→¬i=m→¬i=m+1→G i (t i))→t m=.pointer (some ⟨z,0,none⟩)→W.1.size≤z→z<X.1.size→B1 z X→Q .normal ⟨mk t,[]⟩ X):(Code.region id ops true).wp P Q a0 W:=by
 have hlt:∀ i j,Waits ops i j→i<n→j<i:=fun i j hj hi=>by
  obtain ⟨o,ho,e,he,hbd,rfl⟩:=hj
  have h1:=List.all_eq_true.1 hord i (by rw [hn];simpa using hi)
  simp only [ho] at h1
  have h2:=(Array.all_eq_true_iff_forall_mem.1 h1) e he
  rw [hbd] at h2
  simpa using h2
 refine regionIC hm n mk t0 (fun f t X=>Below W.1.size W X∧(∀ i,i<n→¬i=m→¬i=m+1→f i=true→G i (t i))∧(f m=true→∃ z,t m=.pointer (some ⟨z,0,none⟩)∧W.1.size≤z∧z<X.1.size∧(f (m+1)=false→B0 z X)∧(f (m+1)=true→B1 z X))∧(f (m+1)=true→f m=true)) hn hord h0 ?_ ?_ ?_
 ·intro f hf
  exact ⟨(Below.refl _ _).drew,fun i _ _ _ h=>by (rw [hf] at h;cases h),fun h=>by (rw [hf] at h;cases h),fun h=>by (rw [hf] at h;cases h)⟩
 ·rintro i hi f t X K ⟨hA,hG,hZ,hM⟩ hfi hwi hcl hK
  by_cases e1:i=m
  ·subst e1
   have hf1:f (i+1)=false:=by
    cases hx:f (i+1) with
    | false=>rfl
    | true=>rw [hM hx] at hfi;cases hfi
   refine sa t X K (fun Y hB hbY hlY=>hK _ Y (fun g hgi hgj=>⟨hA.trans (hbY.mono hA.size),fun j hj h1 h2 hg=>?_,fun _=>⟨X.1.size,by rw [updT_same],hA.size,hlY,fun _=>hB,fun h=>?_⟩,fun _=>hgi⟩))
   ·rw [updT_ne h1]
    rw [hgj j h1] at hg
    exact hG j hj h1 h2 hg
   ·rw [hgj _ Za,hf1] at h
    cases h
  ·by_cases e2:i=m+1
   ·subst e2
    obtain ⟨z,ez,hz,hzX,hb0,_⟩:=hZ (hwi m hbox)
    refine ss t X K z ez (hb0 hfi) hzX (fun j hj h1 h2=>hG j (by have:=hlt _ j hj hi;omega) h1 h2 (hwi j hj)) (fun v Y hB hfY=>hK v Y (fun g hgi hgj=>⟨hA.trans (hfY.below (fun q hq e=>by have e':q=z:=e;omega) hA.size),fun j hj h1 h2 hg=>?_,fun _=>⟨z,by rw [updT_ne Za];exact ez,hz,Nat.lt_of_lt_of_le hzX hfY.size,fun h=>by (rw [hgi] at h;cases h),fun _=>hB⟩,fun _=>by rw [hgj m Za];exact hwi m hbox⟩))
    rw [updT_ne h2]
    rw [hgj j h2] at hg
    exact hG j hj h1 h2 hg
   ·refine sg i hi e1 e2 t X K hA (fun j hj h1 h2=>hG j (by have:=hlt i j hj hi;omega) h1 h2 (hwi j hj)) (fun v Y hv hbY=>hK v Y (fun g hgi hgj=>⟨hA.trans (hbY.mono hA.size),fun j hj h1 h2 hg=>?_,fun hgm=>?_,fun h=>?_⟩))
    ·by_cases e:j=i
     ·subst e
      rw [updT_same]
      exact hv
     ·rw [updT_ne e]
      rw [hgj j e] at hg
      exact hG j hj h1 h2 hg
    ·rw [hgj m (fun e=>e1 e.symm)] at hgm
     obtain ⟨z,ez,hz,hzX,hb0,hb1⟩:=hZ hgm
     refine ⟨z,by rw [updT_ne (fun e=>e1 e.symm)];exact ez,hz,Nat.lt_of_lt_of_le hzX hbY.size,fun h=>?_,fun h=>?_⟩
     ·rw [hgj _ (fun e=>e2 e.symm)] at h
      exact st0 z X Y (hb0 h) hzX hbY
     ·rw [hgj _ (fun e=>e2 e.symm)] at h
      exact st1 z X Y (hb1 h) hzX hbY
    ·rw [hgj _ (fun e=>e2 e.symm)] at h
     rw [hgj m (fun e=>e1 e.symm)]
     exact hM h
 ·rintro f t X hf ⟨hA,hG,hZ,_⟩
  obtain ⟨z,ez,hz,hzX,_,hb1⟩:=hZ (hf m Za)
  exact hfin t X z hA (fun i hi h1 h2=>hG i hi h1 h2 (hf i hi)) ez hz hzX (hb1 (hf _ Za))
end Go.Proofs.YtllmmkchokkaaaaGreatDoor
