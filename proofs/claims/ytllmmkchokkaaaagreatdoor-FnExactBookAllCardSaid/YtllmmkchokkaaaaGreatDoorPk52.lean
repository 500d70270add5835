import Derived.Test.YtllmmkchokkaaaaGreatDoorPk50
import Derived.Test.YtllmmkchokkaaaaGreatDoorPk51
import Derived.Test.YtllmmkchokkaaaaGreatDoorTie
import Derived.Test.YtllmmkchokkaaaaGreatDoorCards
import Derived.ProofKit
import Derived.SizedLaws
import Derived.LaidLaws
import Derived.LaidHandle
import Derived.Stop.Joined
import Derived.SevenTiedAt
set_option maxRecDepth 100000
namespace Go.Proofs.YtllmmkchokkaaaaGreatDoor
open Go.ChangeShapes Go.WideShapes Go.ChangeAt Go.RowKit
open Go.WideMaps Go.WideElems Go.Deep
theorem Tryz.c157:Tryz.prog.cellsOf 157=3:=Zf
theorem Tryz.c50:Tryz.prog.cellsOf 50=2:=Zf
theorem Tryz.b157:Tryz.prog.bytesOf 157=40:=Zf
theorem Tryz.b28:Tryz.prog.bytesOf 28=80:=Zf
theorem list2 {α:Type} {l:List α} (h:l.length=2):∃ a b,l=[a,b]:=by
 match l,h with
 | [a,b],_=>exact ⟨a,b,rfl⟩
theorem openWt {H:Type} {enc:TypeId × Value→H} {W:World} {fuel:Nat} {cs:List Value} {x:DataW H × List MemPlace} (h:DataW.trod enc Tryz.prog W 0 (fun _=>true) true fuel 157 cs=some x) (hs:Fits 157 x.1) :
  ∃ o:Wnt,cs=[.string o.kind,.string o.name,.int .i64 o.ver]∧WtFit o:=by
 obtain ⟨xs,n,_,rfl,hlen,hxl,hf⟩:=DataW.trod_struct Tryz.underlying157 h
 rw [Tryz.c157] at hlen
 obtain ⟨c0,c1,c2,rfl⟩:=list3 hlen
 obtain ⟨y0,y1,y2,rfl⟩:=list3 (show xs.length=3 from hxl)
 have g0:=hf 0 _ rfl
 have g1:=hf 1 _ rfl
 have g2:=hf 2 _ rfl
 simp only [List.getElem?_cons_succ,List.getElem?_cons_zero] at g0 g1 g2
 have hs':∀ z,z ∈ DataW.weights Tryz.prog 9 y0.1∨z ∈ DataW.weights Tryz.prog 9 y1.1→z≤reachBytes:=fun z hz=>hs z (by
  simp only [List.map_cons,List.map_nil,DataW.weights,Tryz.underlying157,DataW.weightsEach,List.mem_append]
  rcases hz with hz|hz<;>simp [hz])
 obtain ⟨k,rfl,fk⟩:=fit_str g0 (fun z hz=>hs' z (Or.inl hz))
 obtain ⟨pr,rfl,fp⟩:=fit_str g1 (fun z hz=>hs' z (Or.inr hz))
 obtain ⟨nu,rfl⟩:=fit_int g2
 exact ⟨⟨k,pr,nu⟩,rfl,⟨fk,fp⟩⟩
theorem openWrC {H:Type} {enc:TypeId × Value→H} {W:World} {fuel:Nat} {cs:List Value} {x:DataW H × List MemPlace} (h:DataW.trod enc Tryz.prog W 0 (fun _=>true) true fuel 28 cs=some x) (hs:Fits 28 x.1) :
  ∃ o:Wr,cs=[.int .i64 o.op,.string o.kind,.string o.name,.int .i64 o.seen,.string o.text,.string o.hold]∧WrFit o:=by
 obtain ⟨xs,n,_,rfl,hlen,hxl,hf⟩:=DataW.trod_struct Tryz.underlying28 h
 rw [Tryz.c28] at hlen
 obtain ⟨c0,c1,c2,c3,c4,c5,rfl⟩:=list6 hlen
 obtain ⟨y0,y1,y2,y3,y4,y5,rfl⟩:=list6 (show xs.length=6 from hxl)
 have g0:=hf 0 _ rfl
 have g1:=hf 1 _ rfl
 have g2:=hf 2 _ rfl
 have g3:=hf 3 _ rfl
 have g4:=hf 4 _ rfl
 have g5:=hf 5 _ rfl
 simp only [List.getElem?_cons_succ,List.getElem?_cons_zero] at g0 g1 g2 g3 g4 g5
 have hs':∀ z,z ∈ DataW.weights Tryz.prog 9 y1.1∨z ∈ DataW.weights Tryz.prog 9 y2.1∨z ∈ DataW.weights Tryz.prog 9 y4.1∨z ∈ DataW.weights Tryz.prog 9 y5.1→z≤reachBytes:=fun z hz=>hs z (by
  simp only [List.map_cons,List.map_nil,DataW.weights,Tryz.underlying28,DataW.weightsEach,List.mem_append]
  rcases hz with hz|hz|hz|hz<;>simp [hz])
 obtain ⟨op,rfl⟩:=fit_int g0
 obtain ⟨ki,rfl,f1⟩:=fit_str g1 (fun z hz=>hs' z (Or.inl hz))
 obtain ⟨na,rfl,f2⟩:=fit_str g2 (fun z hz=>hs' z (Or.inr (Or.inl hz)))
 obtain ⟨se,rfl⟩:=fit_int g3
 obtain ⟨te,rfl,f3⟩:=fit_str g4 (fun z hz=>hs' z (Or.inr (Or.inr (Or.inl hz))))
 obtain ⟨ho,rfl,f4⟩:=fit_str g5 (fun z hz=>hs' z (Or.inr (Or.inr (Or.inr hz))))
 exact ⟨⟨op,ki,na,se,te,ho⟩,rfl,⟨f1,f2,f3,f4⟩⟩
theorem openBu {H:Type} {enc:TypeId × Value→H} {W:World} {b0:Nat} {v:Value} {d:DataW H} {p:List MemPlace} (hv:Value.okWide Tryz.prog W .any b0 50 v) (h:DataW.Trod enc Tryz.prog W 0 (fun _=>true) true 50 v d p) (hs:Fits 50 d) :
  ∃ (x:Bu) (a1 a2:Option Addr) (c1 c2:Nat),v=.agg #[.slice a1 x.wn c1,.slice a2 x.rn c2]∧BuIn W 0 W.1.size x a1 a2∧BuFit0 x:=by
 obtain ⟨cs,rfl,hsz⟩:=okWide_struct Tryz.underlying50 hv
 obtain ⟨fuel,hf0⟩:=h
 obtain ⟨xs,n,_,hx,hlen,hxl,hf⟩:=DataW.trod_struct Tryz.underlying50 hf0
 simp only [Prod.mk.injEq] at hx
 obtain ⟨rfl,rfl⟩:=hx
 rw [Tryz.c50] at hsz
 obtain ⟨e0,e1,he⟩:=list2 (show cs.toList.length=2 by simpa using hsz)
 obtain rfl:cs=#[e0,e1]:=by
  apply Array.ext'
  simpa using he
 obtain ⟨y0,y1,rfl⟩:=list2 (show xs.length=2 from hxl)
 have g0:=hf 0 _ rfl
 have g1:=hf 1 _ rfl
 simp only [List.getElem?_cons_succ,List.getElem?_cons_zero] at g0 g1
 have hs':∀ z,z ∈ DataW.weights Tryz.prog 47 y0.1∨z ∈ DataW.weights Tryz.prog 48 y1.1→z≤reachBytes:=fun z hz=>hs z (by
  simp only [List.map_cons,List.map_nil,DataW.weights,Tryz.underlying50,DataW.weightsEach,List.mem_append]
  rcases hz with hz|hz<;>simp [hz])
 obtain ⟨a1,n1,c1,rfl,b1,l1⟩:=openSl Tryz.underlying47 Tryz.c157 Za g0 (fun z hz=>hs' z (Or.inl hz)) (by rw [Tryz.b157];omega)
 obtain ⟨a2,n2,c2,rfl,b2,l2⟩:=openSl Tryz.underlying48 Tryz.c28 Za g1 (fun z hz=>hs' z (Or.inr hz)) (by rw [Tryz.b28];omega)
 obtain ⟨x1,hx1⟩:=skol (⟨⟨#[]⟩,⟨#[]⟩,0⟩:Wnt) (p:=fun i o=>(∃ b off,a1=some ⟨b,off,none⟩∧0≤b∧b<W.1.size∧WtCells W b (off+i*3) o)∧WtFit o) (fun i hi=>by
  obtain ⟨b,off,cs,k,y,rfl,hb,hc,ht,hf⟩:=l1 i hi
  obtain ⟨o,rfl,hfit⟩:=openWt ht hf
  exact ⟨o,⟨b,off,rfl,Nat.zero_le _,hb,⟨hc 0 Za,hc 1 Za,hc 2 Za⟩⟩,hfit⟩)
 obtain ⟨x2,hx2⟩:=skol (⟨0,⟨#[]⟩,⟨#[]⟩,0,⟨#[]⟩,⟨#[]⟩⟩:Wr) (p:=fun i o=>(∃ b off,a2=some ⟨b,off,none⟩∧0≤b∧b<W.1.size∧WrCells W b (off+i*6) o)∧WrFit o) (fun i hi=>by
  obtain ⟨b,off,cs,k,y,rfl,hb,hc,ht,hf⟩:=l2 i hi
  obtain ⟨o,rfl,hfit⟩:=openWrC ht hf
  exact ⟨o,⟨b,off,rfl,Nat.zero_le _,hb,⟨hc 0 Za,hc 1 Za,hc 2 Za,hc 3 Za,hc 4 Za,hc 5 Za⟩⟩,hfit⟩)
 exact ⟨⟨n1,x1,n2,x2⟩,a1,a2,c1,c2,rfl,⟨fun i hi=>(hx1 i hi).1,fun i hi=>(hx2 i hi).1⟩,⟨b1,b2,fun i hi=>(hx1 i hi).2,fun i hi=>(hx2 i hi).2⟩⟩
theorem Tryz.own:ownKnob Tryz.prog.godebug=none:=Zf
theorem Tryz.et:Tryz.prog.globalNamed "errors.errorType" = some 0:=Zf
theorem Tryz.rt:(Tryz.prog.cutTypes.find? (·.1 == "internal/reflectlite.rtype")).map (·.2)=some 233:=Zf
theorem Tryz.tyN:Tryz.prog.types.size=312:=Zf
theorem Tryz.oneRow:((List.range 312).filter fun t=>Tryz.prog.rowNamed t [101,114,114,111,114])=[86]:=Zf
abbrev laidL:List (String × DataW Unit):=Rows.fnExactBookAllRow.laid
theorem handle_of_laid {W:World} (h:laidMetH Tryz.prog laidL W):W.cell? ⟨0,0,none⟩=some (.iface 233 (.agg #[.pointer (some ⟨5,86,none⟩)])):=by
 have h':laidMet Tryz.prog [] W∧handlesMet Tryz.prog laidL W:=h
 obtain ⟨name,u,ty,e1,e2,e3,e4,e5⟩:=h'.2 _ (List.mem_singleton.2 rfl)
 have en:name=[101,114,114,111,114]:=(Option.some.inj e1).symm
 subst en
 obtain rfl:=Option.some.inj (Tryz.rt.symm.trans e2)
 have hm:ty ∈ (List.range 312).filter fun t=>Tryz.prog.rowNamed t [101,114,114,111,114]:=List.mem_filter.2 ⟨List.mem_range.2 (by rw [←Tryz.tyN];exact e3),e4⟩
 rw [Tryz.oneRow] at hm
 obtain rfl:=List.mem_singleton.1 hm
 have hh:typeHandle Tryz.prog 86=.pointer (some ⟨5,86,none⟩):=Zf
 rw [hh] at e5
 simpa using World.var?_cell Tryz.et e5 0
noncomputable def laidWorld (os:Os):World:=
 let w0:=World.holding Tryz.prog os ⟨#[],#[],[]⟩
 { w0 with heap:=w0.heap.modify 0 fun
   | .cells _ t frozen=>.cells #[.iface 233 (.agg #[.pointer (some ⟨5,86,none⟩)])] t frozen
   | o=>o }
theorem laidWorld_met (os:Os) (args:Array Value):laidMetH Tryz.prog laidL ((laidWorld os).forCall (fun _ _=>0) ⟨#[],args,[]⟩).memory:=
 laidMetH_of_parts (laidMet_nil _ _) Zf
theorem all_lifted (os:Os) (started:os.Started) (H:Type) (enc:TypeId × Value→H) :
  ReturnsInHanded {} Tryz.checked os 4 .any (fun w args=>(Rows.fnExactBookAllSpec.pre enc Tryz.prog Tryz.f4 Rows.fnExactBookAllRow.domain false w args∧laidMetH Tryz.prog laidL w)∧sizedMet enc Tryz.prog Tryz.f4 (OpenSpec.ofChange Rows.fnExactBookAllSpec) false w args)
   (Rows.fnExactBookAllSpec.post enc Tryz.prog Tryz.f4 false true false false):=by
 refine returnsInHanded_of_change_and (C:=Tryz.checked) (X:=fun w _=>laidMetH Tryz.prog laidL w) (fun _ _ _ hh h=>h.of_heap hh) Tryz.own started Zf Tryz.func4
  (ChangeSpec.witness_at (enc:=enc) (C:=Tryz.checked) (os:=os) (X:=fun w _=>laidMetH Tryz.prog laidL w) false (laidWorld os) #[.agg #[.int .i64 0,.int .i64 0,.slice none 0 0,.slice none 0 0,.slice none 0 0],.agg #[.slice none 0 0,.slice none 0 0]] 8 rfl Zf Zf Zf Zf Zf (laidWorld_met os _)) ?_
 intro W base args ds gs before hval0 hW _ hsz0 hL _
 have hsz:(DataW.weightsEach Tryz.prog (Tryz.f4.params.toList ++ Rows.fnExactBookAllSpec.plain.varTypes Tryz.prog) (ds ++ gs)).all (·≤reachBytes)=true:=hsz0
 clear hsz0
 have hval:∀ (j:Nat) t v,Tryz.f4.params[j]? = some t→args[j]? = some v→Value.okWide Tryz.prog W .any base t v:=hval0
 have hW':=hW
 obtain ⟨p,q,hA0,hV,rfl,_,_⟩:=hW
 have hA:DataW.TrodAll enc Tryz.prog W 0 (fun _=>true) true Tryz.f4.params.toList args.toList ds p:=hA0
 rw [Tryz.params4] at hA hval hsz
 obtain ⟨v0,v1,d0,d1,p0,p1,rfl,rfl,rfl,h0,h1⟩:=trodAll_two hA
 obtain ⟨rfl,rfl⟩:=trodVars_none hV
 have hfit:Fits 26 d0:=fun x hx=>by
  have:=List.all_eq_true.1 hsz x (DataW.weights_mem_each (j:=0) (t:=26) rfl rfl x hx)
  simpa using this
 have hfit1:Fits 50 d1:=fun x hx=>by
  have:=List.all_eq_true.1 hsz x (DataW.weights_mem_each (j:=1) (t:=50) rfl rfl x hx)
  simpa using this
 have h0k:=h0
 have h1k:=h1
 obtain ⟨x,a1,a2,a3,c1,c2,c3,rfl,hin,hbf⟩:=openBk (hval 0 26 v0 rfl rfl) h0 hfit
 obtain ⟨u,ua,ub,d1,d2,rfl,hun,hbu⟩:=openBu (hval 1 50 v1 rfl rfl) h1 hfit1
 clear hA0 hval0 hsz
 simp only [List.append_nil] at hW'
 have hlt:∀ y ∈ p0 ++ p1,y.block<W.1.size:=fun y hy=>by simpa using hW'.lt y (by simpa using hy)
 have hg:=handle_of_laid hL
 refine (all_law x u a1 a2 a3 c1 c2 c3 ua ub d1 d2 W hbf hbu hin hun hg (cell_lt hg)).mono fun e W' ⟨he,hb⟩=>?_
 subst he
 refine ⟨_,rfl,_,_,_,[],p0 ++ p1,[],hW',?_,?_,rfl,hb.frame _,fun h=>by cases h⟩
 ·exact trodAll_mk1 (shut_bool Tryz.underlying4 true)
 ·exact trodAll_mk2 (Below.trod Tryz.laidOut Zf (of_decide_eq_true Zf) h0k hb (fun y hy=>hlt y (List.mem_append_left _ hy))) (Below.trod Tryz.laidOut Zf (of_decide_eq_true Zf) h1k hb (fun y hy=>hlt y (List.mem_append_right _ hy)))
theorem all_holds:Rows.FnExactBookAllSaid:=
 OpenClaim.holds_of_wide 4 Tryz.f4 rfl rfl rfl rfl rfl rfl rfl ⟨rfl,rfl,rfl,rfl,rfl⟩ rfl rfl rfl rfl rfl Zf Tryz.func4 Zf
  (of_decide_eq_true Zf) (by unfold Func.isWrapper;rw [if_neg (of_decide_eq_false Zf)];exact ⟨rfl,rfl⟩)
  (fun os started H enc _=>all_lifted os started H enc)
theorem all_card:Rows.FnExactBookAllCardSaid:=
 Claim7.holds_tied_plain_at .later [] [.handle] true Rows.fnExactBookAllCard.stood.harness true
  all_holds (fun _ h=>by cases h) Zf (fun _ h=>by cases h) fnExactBookAll_row_tie rfl ⟨rfl,rfl⟩ Zf rfl
  (fun f fn hf hfn=>by
   obtain rfl:f=4:=Option.some.inj ((show Tryz.prog.funcNamed Tryz.f4.name=some 4 by kernel_rfl).symm.trans hf) |>.symm
   obtain rfl:fn=Tryz.f4:=(Option.some.inj (Tryz.func4.symm.trans hfn)).symm
   exact ⟨Zf,fun j t ht=>by
    rw [Tryz.params4] at ht
    have hm:t ∈ [26,50]:=by simpa using Array.mem_of_getElem? ht
    have hall:([26,50].all fun u=>!Tryz.prog.wantsStandIn u)=true:=Zf
    exact (show Tryz.prog.wantsStandIn t=false by simpa using List.all_eq_true.1 hall t hm)⟩)
  Zf
end Go.Proofs.YtllmmkchokkaaaaGreatDoor
