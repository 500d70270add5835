import Derived.Test.YtllmmkchokkaaaaGreatDoorPk49
import Derived.Test.YtllmmkchokkaaaaGreatDoorPk15
set_option maxRecDepth 100000
namespace Go.Proofs.YtllmmkchokkaaaaGreatDoor
open Go.ChangeShapes Go.WideShapes Go.ChangeAt Go.RowKit Go.Deep
theorem Tryz.c28:Tryz.prog.cellsOf 28=6:=by kernel_rfl
theorem list6 {α:Type} {l:List α} (h:l.length=6):∃ a b c d e f,l=[a,b,c,d,e,f]:=by
 match l,h with
 | [a,b,c,d,e,f],_=>exact ⟨a,b,c,d,e,f,rfl⟩
theorem openWr {H:Type} {enc:TypeId × Value→H} {W:World} {b0:Nat} {v:Value} {d:DataW H} {p:List MemPlace} (hv:Value.okWide Tryz.prog W .any b0 28 v) (h:DataW.Trod enc Tryz.prog W 0 (fun _=>true) true 28 v d p) (hs:Fits 28 d) :
  ∃ x:Wr,v=.agg #[.int .i64 x.op,.string x.kind,.string x.name,.int .i64 x.seen,.string x.text,.string x.hold]∧WrFit x:=by
 obtain ⟨cs,rfl,hsz⟩:=okWide_struct Tryz.underlying28 hv
 obtain ⟨fuel,hf0⟩:=h
 obtain ⟨xs,n,_,hx,hlen,hxl,hf⟩:=DataW.trod_struct Tryz.underlying28 hf0
 simp only [Prod.mk.injEq] at hx
 obtain ⟨rfl,rfl⟩:=hx
 rw [Tryz.c28] at hsz
 obtain ⟨e0,e1,e2,e3,e4,e5,he⟩:=list6 (show cs.toList.length=6 by simpa using hsz)
 obtain rfl:cs=#[e0,e1,e2,e3,e4,e5]:=by
  apply Array.ext'
  simpa using he
 obtain ⟨y0,y1,y2,y3,y4,y5,rfl⟩:=list6 (show xs.length=6 from hxl)
 have g0:=hf 0 _ rfl
 have g1:=hf 1 _ rfl
 have g2:=hf 2 _ rfl
 have g3:=hf 3 _ rfl
 have g4:=hf 4 _ rfl
 have g5:=hf 5 _ rfl
 simp only [List.getElem?_cons_succ,List.getElem?_cons_zero] at g0 g1 g2 g3 g4 g5
 have hs':∀ z,z ∈ DataW.weights Tryz.prog 9 y1.1∨z ∈ DataW.weights Tryz.prog 9 y2.1∨z ∈ DataW.weights Tryz.prog 9 y4.1∨z ∈ DataW.weights Tryz.prog 9 y5.1→z≤reachBytes:=fun z hz=>hs z (by
  simp only [List.map_cons,List.map_nil,DataW.weights,Tryz.underlying28,DataW.weightsEach,List.mem_append]
  rcases hz with hz|hz|hz|hz<;>simp [hz])
 obtain ⟨op,rfl⟩:=fit_int g0
 obtain ⟨ki,rfl,f1⟩:=fit_str g1 (fun z hz=>hs' z (Or.inl hz))
 obtain ⟨na,rfl,f2⟩:=fit_str g2 (fun z hz=>hs' z (Or.inr (Or.inl hz)))
 obtain ⟨se,rfl⟩:=fit_int g3
 obtain ⟨te,rfl,f3⟩:=fit_str g4 (fun z hz=>hs' z (Or.inr (Or.inr (Or.inl hz))))
 obtain ⟨ho,rfl,f4⟩:=fit_str g5 (fun z hz=>hs' z (Or.inr (Or.inr (Or.inr hz))))
 exact ⟨⟨op,ki,na,se,te,ho⟩,rfl,⟨f1,f2,f3,f4⟩⟩
end Go.Proofs.YtllmmkchokkaaaaGreatDoor
