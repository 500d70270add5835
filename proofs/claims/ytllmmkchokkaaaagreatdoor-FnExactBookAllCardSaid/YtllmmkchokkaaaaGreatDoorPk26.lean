import Derived.Test.YtllmmkchokkaaaaGreatDoorPk24
import Derived.Test.YtllmmkchokkaaaaGreatDoorPk25
set_option maxRecDepth 100000
namespace Go.Proofs.YtllmmkchokkaaaaGreatDoor
open Go.RowKit Go.Maps
abbrev obV (e:EO):Value:=.agg #[.string e.ob.kind,.string e.ob.name,.int .i64 e.ob.ver,.int .i64 e.ob.born,.string e.ob.text,.bool e.ob.ending,.slice e.A e.ob.hn e.C]
structure DkIn (w:World) (D K g:Nat) (B:Bk) (v:Wr) (L:List EO) (a1:Option Addr) (c1 pl:Nat) (fo:Bool):Prop where
 dk:DeskAt w D K v (pl:Nat) fo
 hD:D<w.1.size
 hK:K<w.1.size
 now:w.cell? ⟨K,0,none⟩=some (.int .i64 B.now)
 objs:w.cell? ⟨K,2,none⟩=some (.slice a1 B.on c1)
 row:RowS w a1 g c1 L
 ol:L.map EO.ob=tkL B.on B.os
 hold:∀ e ∈ L,StrsIn w 0 w.1.size e.A e.ob.hn e.ob.hs
 cap:∀ e ∈ L,CapG w e.ob.hn e.A e.C
 pa:PlaceAt B v pl
 fo:fo=(decide (pl<B.on)&&decide (kcI B.os v.kind v.name pl=0))
 ok:WOk B v
theorem DkIn.len {w:World} {D K g:Nat} {B:Bk} {v:Wr} {L:List EO} {a1:Option Addr} {c1 pl:Nat} {fo:Bool} (h:DkIn w D K g B v L a1 c1 pl fo):L.length=B.on:=by
 have:=congrArg List.length h.ol
 simpa [tkL] using this
theorem DkIn.at {w:World} {D K g:Nat} {B:Bk} {v:Wr} {L:List EO} {a1:Option Addr} {c1 pl:Nat} {fo:Bool} (h:DkIn w D K g B v L a1 c1 pl fo) {i:Nat} (hi:i<B.on):(ixE L i).ob=B.os i:=by
 have h1:=ixE_map (L:=L) (i:=i) (by rw [h.len];exact hi)
 rw [h.ol] at h1
 simpa [tkL,hi] using h1.symm
theorem DkIn.yes {w:World} {D K g:Nat} {B:Bk} {v:Wr} {L:List EO} {a1:Option Addr} {c1 pl:Nat} (h:DkIn w D K g B v L a1 c1 pl true):pl<B.on∧wOf B v=B.os pl∧fndIs B.os v.kind v.name B.on=true∧(B.os pl).kind=v.kind∧(B.os pl).name=v.name:=by
 have hf:=h.fo
 have h1:pl<B.on∧kcI B.os v.kind v.name pl=0:=by simpa using hf.symm
 have h2:=fnd_place h.ok h.pa
 rw [if_pos h1] at h2
 have h3:=(kc_nil _ _ _ _).1 h1.2
 exact ⟨h1.1,by unfold wOf fndOb;rw [h2],by unfold fndIs;rw [h2];rfl,h3.1,h3.2⟩
theorem DkIn.no {w:World} {D K g:Nat} {B:Bk} {v:Wr} {L:List EO} {a1:Option Addr} {c1 pl:Nat} (h:DkIn w D K g B v L a1 c1 pl false):wOf B v=ob0∧fndIs B.os v.kind v.name B.on=false:=by
 have hf:=h.fo
 have h1:¬(pl<B.on∧kcI B.os v.kind v.name pl=0):=by
  rintro ⟨h1,h2⟩
  simp [h1,h2] at hf
 have h2:=fnd_place h.ok h.pa
 rw [if_neg h1] at h2
 exact ⟨by unfold wOf fndOb;rw [h2],by unfold fndIs;rw [h2];rfl⟩
theorem DkIn.cells {w:World} {D K g:Nat} {B:Bk} {v:Wr} {L:List EO} {a1:Option Addr} {c1 pl:Nat} (h:DkIn w D K g B v L a1 c1 pl true):a1=some ⟨g,0,none⟩∧g<w.1.size∧ObCells w g (pl*7) (wOf B v) (ixE L pl).A (ixE L pl).C∧ixE L pl ∈ L:=by
 have hy:=h.yes
 have hlen:=h.len
 rcases h.row with ⟨_,hL,_⟩|⟨e1,e2,_⟩
 ·rw [hL] at hlen
  simp at hlen
  omega
 ·have h1:=e2.ob pl Za
  rw [h.at hy.1,←hy.2.1] at h1
  exact ⟨e1,e2.lt,h1,ixE_mem Za⟩
def OpPost (B:Bk) (v:Wr) (L:List EO) (pl:Nat) (w:World) (e:Ending) (w':World):Prop:=
 Below w.1.size w w' ∧
 (
   (¬oCode B v=0∧e=.returned (.tuple #[.agg #[.string ⟨#[]⟩,.string ⟨#[]⟩,.int .i64 0,.int .i64 0,.string ⟨#[]⟩,.bool false,.slice none 0 0],.iface 90 (.agg #[.int .i64 (oCode B v),.int .i64 (oVer B v)])])) ∨
   (oCode B v=0∧∃ E:EO,E.ob=opOb B v (wOf B v).ver∧e=.returned (.tuple #[obV E,.nilIface])∧(StrsIn w' 0 w'.1.size E.A E.ob.hn E.ob.hs∧CapG w' E.ob.hn E.A E.C) ∧
    (
      ((v.op=2∨v.op=3)∧E.A=(ixE L pl).A∧E.C=(ixE L pl).C∧E.hb=(ixE L pl).hb) ∨
      (¬v.op=2∧¬v.op=3∧w.1.size≤E.hb∧(E.ob.hn≠0→E.hb<w'.1.size)∧StrsOwn w' E.hb (E.hb+1) E.A E.ob.hn E.ob.hs))))
theorem oc_none {B:Bk} {v:Wr} (h:fndIs B.os v.kind v.name B.on=false) (h1:¬v.op=1):oCode B v=3∧oVer B v=0:=by
 have:oCode B v=3:=by unfold oCode;rw [if_pos (by rw [h];simp [h1])]
 exact ⟨this,by unfold oVer;rw [this];rfl⟩
theorem oc_there {B:Bk} {v:Wr} (h:fndIs B.os v.kind v.name B.on=true) (h1:v.op=1):oCode B v=3∧oVer B v=0:=by
 have:oCode B v=3:=by unfold oCode;rw [if_pos (by rw [h];simp [h1])]
 exact ⟨this,by unfold oVer;rw [this];rfl⟩
theorem oc_stale {B:Bk} {v:Wr} (h:fndIs B.os v.kind v.name B.on=true) (h1:¬v.op=1) (h2:¬v.seen=0∧¬v.seen=(wOf B v).ver):oCode B v=4∧oVer B v=(wOf B v).ver:=by
 have:oCode B v=4:=by unfold oCode;rw [if_neg (by rw [h];simp [h1]),if_pos h2]
 exact ⟨this,by unfold oVer;rw [this];rfl⟩
theorem oc_end {B:Bk} {v:Wr} (h:fndIs B.os v.kind v.name B.on=true) (h1:¬v.op=1) (h2:¬(¬v.seen=0∧¬v.seen=(wOf B v).ver)) (h3:(wOf B v).ending=true) (h5:¬v.op=5):oCode B v=5∧oVer B v=0:=by
 have:oCode B v=5:=by unfold oCode;rw [if_neg (by rw [h];simp [h1]),if_neg h2,if_pos ⟨h3,h5⟩]
 exact ⟨this,by unfold oVer;rw [this];rfl⟩
theorem oc_go {B:Bk} {v:Wr} (h:fndIs B.os v.kind v.name B.on=true) (h1:¬v.op=1) (h2:¬(¬v.seen=0∧¬v.seen=(wOf B v).ver)) (h3:¬((wOf B v).ending=true∧¬v.op=5)) :
  oCode B v=if v.op=4 then (if hasB (wOf B v).hn (wOf B v).hs v.hold=true then 6 else if 5≤(wOf B v).hn then 7 else 0) else if v.op=5 then (if hasB (wOf B v).hn (wOf B v).hs v.hold=true then 0 else 6) else 0:=by
 unfold oCode
 rw [if_neg (by rw [h];simp [h1]),if_neg h2,if_neg h3,if_neg h1]
theorem oc_new {B:Bk} {v:Wr} (h:fndIs B.os v.kind v.name B.on=false) (hw:wOf B v=ob0) (h1:v.op=1) (hs:v.seen=0):oCode B v=if 100≤B.on then 7 else 0:=by
 unfold oCode
 rw [if_neg (by rw [h];simp [h1]),if_neg (fun q=>q.1 hs),if_neg (by rw [hw];simp [ob0]),if_pos h1]
theorem ov_not4 {B:Bk} {v:Wr} (h:¬oCode B v=4):oVer B v=0:=if_neg h
theorem rowC_strs {w:World} {A:Option Addr} {n C:Nat} {s:Nat→ByteArray} (h:StrsIn w 0 w.1.size A n s) (hc:CapG w n A C):∃ b off,RowC w 1 A b off n C (strCells n s):=by
 rcases hc.2 with ⟨e1,e2,e3⟩|⟨b,off,e1,e2⟩
 ·exact ⟨0,0,by rw [strCells_len,Nat.mul_one],strCells_one _ _,Or.inl ⟨e1,e2,e3⟩⟩
 ·refine ⟨b,off,by rw [strCells_len,Nat.mul_one],strCells_one _ _,Or.inr ⟨e1,hc.1,e2,fun t u hu=>?_⟩⟩
  obtain ⟨ht,rfl⟩:=strCells_get hu
  obtain ⟨b',off',e',_,_,hcell⟩:=h t ht
  rw [e1] at e'
  cases e'
  exact hcell
theorem own_cap {w:World} {base z n:Nat} {e:TypeId} {a:Option Addr} {c:Nat} {xs:List Value} (h:w.ownsRow base e z (.slice a n c) n xs):CapG w n a c:=by
 rcases h.2 with ⟨e1,e2⟩|⟨g,cap',cur,e1,e2,e3,e4,_⟩
 ·cases e1
  exact ⟨Nat.le_refl _,Or.inl ⟨rfl,rfl,rfl⟩⟩
 ·cases e1
  exact ⟨e4,Or.inr ⟨g,0,rfl,(Array.getElem?_eq_some_iff.1 e3).1⟩⟩
theorem own_strs {w:World} {base n:Nat} {a:Option Addr} {c:Nat} {s:Nat→ByteArray} {xs:List Value} (h:w.ownsRow base 9 1 (.slice a n c) n xs) (hx:xs=strCells n s):∃ hb,base≤hb∧(n≠0→hb<w.1.size)∧StrsOwn w hb (hb+1) a n s:=by
 subst hx
 rcases h.2 with ⟨_,e2⟩|⟨g,cap',cur,e1,e2,e3,e4⟩
 ·subst e2
  exact ⟨base,Nat.le_refl _,fun q=>absurd rfl q,fun i hi=>absurd hi (Nat.not_lt_zero _)⟩
 ·cases e1
  refine ⟨g,e2,fun _=>(Array.getElem?_eq_some_iff.1 e3).1,fun i hi=>⟨g,0,rfl,Nat.le_refl _,Nat.lt_succ_self _,?_,?_⟩⟩
  ·rw [Nat.zero_add,h.cellAt i Za]
   exact strCells_at hi
  ·exact h.frozenAt _
theorem strs_ins (n:Nat) (s:Nat→ByteArray) (k:Nat) (a:ByteArray) (hk:k≤n):(strCells n s).take (k*1) ++ [.string a] ++ (strCells n s).drop (k*1)=strCells (n+1) (insS s k a):=by
 refine List.ext_getElem? fun j=>?_
 rw [Nat.mul_one,List.append_assoc]
 have hl:=strCells_len n s
 rcases Nat.lt_or_ge j k with h|h
 ·rw [List.getElem?_append_left (by rw [List.length_take];omega),List.getElem?_take,if_pos h,strCells_at Za,strCells_at Za]
  simp [insS,h]
 ·rw [List.getElem?_append_right (by rw [List.length_take];omega),List.length_take,hl,Nat.min_eq_left hk]
  rcases Nat.eq_or_lt_of_le h with h1|h1
  ·subst h1
   rw [Nat.sub_self,strCells_at Za]
   simp [insS]
  ·obtain ⟨d,rfl⟩:∃ d,j=k+1+d:=⟨j-k-1,Za⟩
   rw [show k+1+d-k=d+1 by omega]
   simp only [List.singleton_append,List.getElem?_cons_succ]
   rw [List.getElem?_drop]
   rcases Nat.lt_or_ge (k+d) n with h2|h2
   ·rw [strCells_at h2,strCells_at Za]
    simp only [insS]
    rw [if_neg Za,if_neg Za,show k+1+d-1=k+d by omega]
   ·rw [List.getElem?_eq_none Za,List.getElem?_eq_none (by rw [strCells_len];omega)]
theorem strs_rem (n:Nat) (s:Nat→ByteArray) (k:Nat) (hk:k<n):(strCells n s).take (k*1) ++ (strCells n s).drop ((k+1)*1)=strCells (n-1) (remS s k):=by
 refine List.ext_getElem? fun j=>?_
 rw [Nat.mul_one,Nat.mul_one]
 have hl:=strCells_len n s
 rcases Nat.lt_or_ge j k with h|h
 ·rw [List.getElem?_append_left (by rw [List.length_take];omega),List.getElem?_take,if_pos h,strCells_at Za,strCells_at Za]
  simp [remS,h]
 ·rw [List.getElem?_append_right (by rw [List.length_take];omega),List.length_take,hl,Nat.min_eq_left Za,List.getElem?_drop]
  rcases Nat.lt_or_ge (k+1+(j-k)) n with h2|h2
  ·rw [strCells_at h2,strCells_at Za]
   simp only [remS]
   rw [if_neg Za,show k+1+(j-k)=j+1 by omega]
  ·rw [List.getElem?_eq_none Za,List.getElem?_eq_none (by rw [strCells_len];omega)]
theorem StrsOwn.inW {w:World} {b:Nat} {A:Option Addr} {n:Nat} {s:Nat→ByteArray} (h:StrsOwn w b (b+1) A n s) (hb:n≠0→b<w.1.size):StrsIn w 0 w.1.size A n s:=fun i hi=>by
 obtain ⟨b',off,e1,e2,e3,e4,_⟩:=h i hi
 have:=hb Za
 exact ⟨b',off,e1,Nat.zero_le _,Za,e4⟩
theorem DkIn.grow {w:World} {D K g:Nat} {B:Bk} {v:Wr} {L:List EO} {a1:Option Addr} {c1 pl:Nat} {fo:Bool} {w':World} (h:DkIn w D K g B v L a1 c1 pl fo) (hb:Below w.1.size w w'):DkIn w' D K g B v L a1 c1 pl fo:=
 ⟨h.dk.grow hb h.hD,Nat.lt_of_lt_of_le h.hD hb.size,Nat.lt_of_lt_of_le h.hK hb.size,(hb.cell (p:=⟨K,0,none⟩) h.hK).trans h.now,(hb.cell (p:=⟨K,2,none⟩) h.hK).trans h.objs,h.row.grow hb,h.ol,fun e he=>((h.hold e he).below hb Zbt).mono Zbt hb.size,fun e he=>(h.cap e he).grow hb.size,h.pa,h.fo,h.ok⟩
theorem st_no {w:World} {D K g:Nat} {B:Bk} {v:Wr} {L:List EO} {a1:Option Addr} {c1 pl:Nat} (h:DkIn w D K g B v L a1 c1 pl false):Calls Tryz.prog 157 #[.pointer (some ⟨D,0,none⟩)] w fun e w'=>e=.returned (.tuple #[.agg #[.string ⟨#[]⟩,.string ⟨#[]⟩,.int .i64 0,.int .i64 0,.string ⟨#[]⟩,.bool false,.slice none 0 0],.iface 90 (.agg #[.int .i64 3,.int .i64 0])])∧Below w.1.size w w':=standing_no D K v pl w h.hD h.dk
theorem st_stale {w:World} {D K g:Nat} {B:Bk} {v:Wr} {L:List EO} {a1:Option Addr} {c1 pl:Nat} (h:DkIn w D K g B v L a1 c1 pl true) (hs:¬v.seen=0∧¬v.seen=(wOf B v).ver):Calls Tryz.prog 157 #[.pointer (some ⟨D,0,none⟩)] w fun e w'=>e=.returned (.tuple #[.agg #[.string ⟨#[]⟩,.string ⟨#[]⟩,.int .i64 0,.int .i64 0,.string ⟨#[]⟩,.bool false,.slice none 0 0],.iface 90 (.agg #[.int .i64 4,.int .i64 (wOf B v).ver])])∧Below w.1.size w w':=by
 obtain ⟨e1,e2,e3,_⟩:=h.cells
 have ho:=h.objs
 rw [e1] at ho
 have hon:=h.ok.on
 exact standing_stale D K v pl B.on (wOf B v) g (ixE L pl).A (ixE L pl).C c1 w e2 h.hD h.hK h.dk ho h.yes.1 Za e3 hs.1 hs.2
theorem st_ok {w:World} {D K g:Nat} {B:Bk} {v:Wr} {L:List EO} {a1:Option Addr} {c1 pl:Nat} (h:DkIn w D K g B v L a1 c1 pl true) (hs:¬(¬v.seen=0∧¬v.seen=(wOf B v).ver)):Calls Tryz.prog 157 #[.pointer (some ⟨D,0,none⟩)] w fun e w'=>e=.returned (.tuple #[.agg #[.string (wOf B v).kind,.string (wOf B v).name,.int .i64 (wOf B v).ver,.int .i64 (wOf B v).born,.string (wOf B v).text,.bool (wOf B v).ending,.slice (ixE L pl).A (wOf B v).hn (ixE L pl).C],.nilIface])∧Below w.1.size w w':=by
 obtain ⟨e1,e2,e3,_⟩:=h.cells
 have ho:=h.objs
 rw [e1] at ho
 have hon:=h.ok.on
 exact standing_ok D K v pl B.on (wOf B v) g (ixE L pl).A (ixE L pl).C c1 w e2 h.hD h.hK h.dk ho h.yes.1 Za e3 (by
  by_cases q:v.seen=0
  ·exact Or.inl q
  ·exact Or.inr (by
    by_cases r:v.seen=(wOf B v).ver
    ·exact r
    ·exact absurd ⟨q,r⟩ hs))
theorem op_err {B:Bk} {v:Wr} {L:List EO} {pl:Nat} {w:World} {f:FuncId} {D:Nat} {c d:Int} (h:Calls Tryz.prog f #[.pointer (some ⟨D,0,none⟩)] w fun e w'=>e=.returned (.tuple #[.agg #[.string ⟨#[]⟩,.string ⟨#[]⟩,.int .i64 0,.int .i64 0,.string ⟨#[]⟩,.bool false,.slice none 0 0],.iface 90 (.agg #[.int .i64 c,.int .i64 d])])∧Below w.1.size w w') (hc:oCode B v=c∧oVer B v=d) (h0:¬c=0):Calls Tryz.prog f #[.pointer (some ⟨D,0,none⟩)] w (OpPost B v L pl w):=
 h.mono fun e w' ⟨h1,h2⟩=>⟨h2,Or.inl ⟨by rw [hc.1];exact h0,by rw [h1,hc.1,hc.2]⟩⟩
theorem held_of {w:World} {D K g:Nat} {B:Bk} {v:Wr} {L:List EO} {a1:Option Addr} {c1 pl:Nat} (h:DkIn w D K g B v L a1 c1 pl true):StrsIn w 0 w.1.size (ixE L pl).A (wOf B v).hn (wOf B v).hs∧CapG w (wOf B v).hn (ixE L pl).A (ixE L pl).C∧(wOf B v).hn≤5∧HsAsc (wOf B v).hn (wOf B v).hs:=by
 obtain ⟨_,_,_,hm⟩:=h.cells
 have hy:=h.yes
 have e:=h.at hy.1
 have h1:=h.hold _ hm
 have h2:=h.cap _ hm
 rw [e,←hy.2.1] at h1 h2
 have h3:=h.ok.hold pl hy.1
 rw [←hy.2.1] at h3
 exact ⟨h1,h2,h3.1,h3.2⟩
theorem apP260 {P:Prop} (h:P:=by
  have h1:=((held_of h).1.below hb Zbt).mono Zbt hb.size
  simp only [opOb,hop]
  exact ⟨h1,(held_of h).2.1.grow hb.size⟩):P:=h
theorem op2_any {w:World} {D K g:Nat} {B:Bk} {v:Wr} {L:List EO} {a1:Option Addr} {c1 pl:Nat} {fo:Bool} (h:DkIn w D K g B v L a1 c1 pl fo) (hop:v.op=2):Calls Tryz.prog 98 #[.pointer (some ⟨D,0,none⟩)] w (OpPost B v L pl w):=by
 have n1:¬v.op=1:=Za
 have n5:¬v.op=5:=Za
 cases fo with
 | false=>exact op_err (update_err D 3 0 w fun o=>lasting_err D 3 0 _ fun o'=>st_no ((h.grow (below_alloc _ o)).grow (below_alloc _ o'))) (oc_none h.no.2 n1) Zb
 | true=>
  have hy:=h.yes
  by_cases hs:¬v.seen=0∧¬v.seen=(wOf B v).ver
  ·exact op_err (update_err D 4 _ w fun o=>lasting_err D 4 _ _ fun o'=>st_stale ((h.grow (below_alloc _ o)).grow (below_alloc _ o')) hs) (oc_stale hy.2.2.1 n1 hs) Zb
  ·by_cases he:(wOf B v).ending=true
   ·exact op_err (update_err D 5 0 w fun o=>lasting_end D (wOf B v) _ _ _ (fun o'=>st_ok ((h.grow (below_alloc _ o)).grow (below_alloc _ o')) hs) he) (oc_end hy.2.2.1 n1 hs he n5) Zb
   ·have he':(wOf B v).ending=false:=by simpa using he
    have hc:=oc_go hy.2.2.1 n1 hs (fun q=>he q.1)
    rw [if_neg Za,if_neg n5] at hc
    refine (update_ok D K v pl true (wOf B v) (ixE L pl).A (ixE L pl).C w h.hD h.dk (fun o=>lasting_ok D (wOf B v) _ _ _ (fun o'=>st_ok ((h.grow (below_alloc _ o)).grow (below_alloc _ o')) hs) he')).mono ?_
    rintro e w' ⟨rfl,hb⟩
    refine ⟨hb,Or.inr ⟨hc,⟨opOb B v (wOf B v).ver,(ixE L pl).A,(ixE L pl).C,(ixE L pl).hb⟩,rfl,?_,?_,Or.inl ⟨Or.inl hop,rfl,rfl,rfl⟩⟩⟩
    ·simp only [opOb,hop]
     rfl
    ·exact apP260
theorem op3_any {w:World} {D K g:Nat} {B:Bk} {v:Wr} {L:List EO} {a1:Option Addr} {c1 pl:Nat} {fo:Bool} (h:DkIn w D K g B v L a1 c1 pl fo) (hop:v.op=3):Calls Tryz.prog 99 #[.pointer (some ⟨D,0,none⟩)] w (OpPost B v L pl w):=by
 have n1:¬v.op=1:=Za
 have n5:¬v.op=5:=Za
 cases fo with
 | false=>exact op_err (end_err D 3 0 w fun o=>lasting_err D 3 0 _ fun o'=>st_no ((h.grow (below_alloc _ o)).grow (below_alloc _ o'))) (oc_none h.no.2 n1) Zb
 | true=>
  have hy:=h.yes
  by_cases hs:¬v.seen=0∧¬v.seen=(wOf B v).ver
  ·exact op_err (end_err D 4 _ w fun o=>lasting_err D 4 _ _ fun o'=>st_stale ((h.grow (below_alloc _ o)).grow (below_alloc _ o')) hs) (oc_stale hy.2.2.1 n1 hs) Zb
  ·by_cases he:(wOf B v).ending=true
   ·exact op_err (end_err D 5 0 w fun o=>lasting_end D (wOf B v) _ _ _ (fun o'=>st_ok ((h.grow (below_alloc _ o)).grow (below_alloc _ o')) hs) he) (oc_end hy.2.2.1 n1 hs he n5) Zb
   ·have he':(wOf B v).ending=false:=by simpa using he
    have hc:=oc_go hy.2.2.1 n1 hs (fun q=>he q.1)
    rw [if_neg Za,if_neg n5] at hc
    refine (end_ok D K v pl true (wOf B v) (ixE L pl).A (ixE L pl).C w h.hD h.dk (fun o=>lasting_ok D (wOf B v) _ _ _ (fun o'=>st_ok ((h.grow (below_alloc _ o)).grow (below_alloc _ o')) hs) he')).mono ?_
    rintro e w' ⟨rfl,hb⟩
    refine ⟨hb,Or.inr ⟨hc,⟨opOb B v (wOf B v).ver,(ixE L pl).A,(ixE L pl).C,(ixE L pl).hb⟩,rfl,?_,?_,Or.inl ⟨Or.inr hop,rfl,rfl,rfl⟩⟩⟩
    ·simp only [opOb,hop]
     rfl
    ·exact apP260
theorem op1_any {w:World} {D K g:Nat} {B:Bk} {v:Wr} {L:List EO} {a1:Option Addr} {c1 pl:Nat} {fo:Bool} (h:DkIn w D K g B v L a1 c1 pl fo) (hop:v.op=1):Calls Tryz.prog 97 #[.pointer (some ⟨D,0,none⟩)] w (OpPost B v L pl w):=by
 cases fo with
 | true=>exact op_err (create_found D K v pl w h.hD h.dk) (oc_there h.yes.2.2.1 hop) Zb
 | false=>
  have hn:=h.no
  have hs:v.seen=0:=by
   have:=h.ok.wr
   unfold wrB at this
   rw [Bool.and_eq_true] at this
   have h2:=this.2
   unfold useB at h2
   rw [if_pos hop] at h2
   exact of_decide_eq_true h2
  have hc:=oc_new hn.2 hn.1 hop hs
  have hon:=h.ok.on
  by_cases h100:B.on=100
  ·rw [if_pos Za] at hc
   exact op_err (create_full D K v pl a1 B.on c1 w h.hD h.hK h.dk h.objs h100) ⟨hc,ov_not4 Zbq⟩ Zb
  ·rw [if_neg Za] at hc
   by_cases hh:v.hold=⟨#[]⟩
   ·refine (create_ok0 D K v pl a1 B.on c1 B.now w h.hD h.hK h.dk h.objs h100 h.now h.ok.now0 h.ok.now1 hh).mono ?_
    rintro e w' ⟨rfl,hb⟩
    have e0:emB v.hold=true:=by simp [emB,hh]
    refine ⟨hb,Or.inr ⟨hc,⟨opOb B v (wOf B v).ver,none,0,w.1.size⟩,rfl,?_,?_,Or.inr ⟨Za,Za,Nat.le_refl _,fun q=>?_,?_⟩⟩⟩
    ·simp only [opOb,hop,hn.1,e0]
     rfl
    ·simp only [opOb,hop,e0]
     exact ⟨fun i hi=>absurd hi (Nat.not_lt_zero _),Nat.le_refl _,Or.inl ⟨rfl,rfl,rfl⟩⟩
    ·simp [opOb,hop,e0] at q
    ·simp only [opOb,hop,e0]
     exact fun i hi=>absurd hi (Nat.not_lt_zero _)
   ·refine (create_ok1 D K v pl a1 B.on c1 B.now w h.hD h.hK h.dk h.objs h100 h.now h.ok.now0 h.ok.now1 hh).mono ?_
    rintro e w' ⟨b,rfl,z1,z2,hcell,hfr,hb⟩
    have e0:emB v.hold=false:=by simp [emB,hh]
    have ho:StrsOwn w' b (b+1) (some ⟨b,0,none⟩) 1 (fun _=>v.hold):=fun i hi=>by
     obtain rfl:i=0:=Za
     exact ⟨b,0,rfl,Nat.le_refl _,Nat.lt_succ_self _,hcell,hfr⟩
    refine ⟨hb,Or.inr ⟨hc,⟨opOb B v (wOf B v).ver,some ⟨b,0,none⟩,1,b⟩,rfl,?_,?_,Or.inr ⟨Za,Za,z1,fun _=>z2,?_⟩⟩⟩
    ·simp only [opOb,hop,hn.1,e0]
     rfl
    ·simp only [opOb,hop,e0]
     exact ⟨ho.inW (fun _=>z2),Nat.le_refl _,Or.inr ⟨b,0,rfl,z2⟩⟩
    ·simp only [opOb,hop,e0]
     exact ho
theorem op4_any {w:World} {D K g:Nat} {B:Bk} {v:Wr} {L:List EO} {a1:Option Addr} {c1 pl:Nat} {fo:Bool} (h:DkIn w D K g B v L a1 c1 pl fo) (hop:v.op=4):Calls Tryz.prog 100 #[.pointer (some ⟨D,0,none⟩)] w (OpPost B v L pl w):=by
 have n1:¬v.op=1:=Za
 have n5:¬v.op=5:=Za
 cases fo with
 | false=>exact op_err (hold_err D 3 0 w fun o=>lasting_err D 3 0 _ fun o'=>st_no ((h.grow (below_alloc _ o)).grow (below_alloc _ o'))) (oc_none h.no.2 n1) Zb
 | true=>
  have hy:=h.yes
  by_cases hs:¬v.seen=0∧¬v.seen=(wOf B v).ver
  ·exact op_err (hold_err D 4 _ w fun o=>lasting_err D 4 _ _ fun o'=>st_stale ((h.grow (below_alloc _ o)).grow (below_alloc _ o')) hs) (oc_stale hy.2.2.1 n1 hs) Zb
  ·by_cases he:(wOf B v).ending=true
   ·exact op_err (hold_err D 5 0 w fun o=>lasting_end D (wOf B v) _ _ _ (fun o'=>st_ok ((h.grow (below_alloc _ o)).grow (below_alloc _ o')) hs) he) (oc_end hy.2.2.1 n1 hs he n5) Zb
   ·have he':(wOf B v).ending=false:=by simpa using he
    have hc:=oc_go hy.2.2.1 n1 hs (fun q=>he q.1)
    rw [if_pos hop] at hc
    obtain ⟨g1,g2,g3,g4⟩:=held_of h
    obtain ⟨rb,ro,hrc⟩:=rowC_strs g1 g2
    have HL:=fun o=>lasting_ok D (wOf B v) (ixE L pl).A (ixE L pl).C (w.alloc o) (fun o'=>st_ok ((h.grow (below_alloc _ o)).grow (below_alloc _ o')) hs) he'
    cases hh:hasB (wOf B v).hn (wOf B v).hs v.hold with
    | true=>
     rw [if_pos hh] at hc
     exact op_err (hold_has D K v pl true (wOf B v) _ rb ro _ w h.hD h.dk HL Za g1 g4 hrc hh) ⟨hc,ov_not4 Zbq⟩ Zb
    | false=>
     rw [if_neg (by rw [hh];decide)] at hc
     by_cases h5:(wOf B v).hn=5
     ·rw [if_pos Za] at hc
      exact op_err (hold_full D K v pl true (wOf B v) _ rb ro _ w h.hD h.dk HL Za g1 g4 hrc hh h5) ⟨hc,ov_not4 Zbq⟩ Zb
     ·rw [if_neg Za] at hc
      refine (hold_ok D K v pl true (wOf B v) _ rb ro _ w h.hD h.dk HL Za g1 g4 hrc hh h5).mono ?_
      rintro e w' ⟨a4,c4,rfl,hown,hb⟩
      obtain ⟨hb4,z1,z2,ho⟩:=own_strs hown (strs_ins _ _ _ _ (rkS_is _ _ _).1)
      refine ⟨hb,Or.inr ⟨hc,⟨opOb B v (wOf B v).ver,a4,c4,hb4⟩,rfl,?_,?_,Or.inr ⟨Za,Za,z1,fun _=>z2 Za,?_⟩⟩⟩
      ·simp only [opOb,hop]
       rfl
      ·simp only [opOb,hop]
       exact ⟨ho.inW (fun _=>z2 Za),own_cap hown⟩
      ·simp only [opOb,hop]
       exact ho
theorem op5_any {w:World} {D K g:Nat} {B:Bk} {v:Wr} {L:List EO} {a1:Option Addr} {c1 pl:Nat} {fo:Bool} (h:DkIn w D K g B v L a1 c1 pl fo) (hop:v.op=5):Calls Tryz.prog 101 #[.pointer (some ⟨D,0,none⟩)] w (OpPost B v L pl w):=by
 have n1:¬v.op=1:=Za
 cases fo with
 | false=>exact op_err (letGo_err D 3 0 w fun o=>st_no (h.grow (below_alloc _ o))) (oc_none h.no.2 n1) Zb
 | true=>
  have hy:=h.yes
  by_cases hs:¬v.seen=0∧¬v.seen=(wOf B v).ver
  ·exact op_err (letGo_err D 4 _ w fun o=>st_stale (h.grow (below_alloc _ o)) hs) (oc_stale hy.2.2.1 n1 hs) Zb
  ·have hc:=oc_go hy.2.2.1 n1 hs (fun q=>q.2 hop)
   rw [if_neg Za,if_pos hop] at hc
   obtain ⟨g1,g2,g3,g4⟩:=held_of h
   obtain ⟨rb,ro,hrc⟩:=rowC_strs g1 g2
   have HL:=fun o=>st_ok (h.grow (below_alloc _ o)) hs
   cases hh:hasB (wOf B v).hn (wOf B v).hs v.hold with
   | false=>
    rw [if_neg (by rw [hh];decide)] at hc
    exact op_err (letGo_not D K v pl true (wOf B v) _ rb ro _ w h.hD h.dk HL Za g1 g4 hrc hh) ⟨hc,ov_not4 Zbq⟩ Zb
   | true=>
    rw [if_pos hh] at hc
    have hk:rkS (wOf B v).hs v.hold (wOf B v).hn<(wOf B v).hn:=by
     rw [has_rk g4,Bool.and_eq_true] at hh
     exact of_decide_eq_true hh.1
    refine (letGo_ok D K v pl true (wOf B v) _ rb ro _ w h.hD h.dk HL Za g1 g4 hrc hh hk).mono ?_
    rintro e w' ⟨a4,c4,rfl,hown,hb⟩
    obtain ⟨hb4,z1,z2,ho⟩:=own_strs hown (strs_rem _ _ _ hk)
    refine ⟨hb,Or.inr ⟨hc,⟨opOb B v (wOf B v).ver,a4,c4,hb4⟩,rfl,?_,?_,Or.inr ⟨Za,Za,z1,fun q=>z2 ?_,?_⟩⟩⟩
    ·simp only [opOb,hop]
     rfl
    ·simp only [opOb,hop]
     exact ⟨ho.inW z2,own_cap hown⟩
    ·simpa [opOb,hop] using q
    ·simp only [opOb,hop]
     exact ho
end Go.Proofs.YtllmmkchokkaaaaGreatDoor
