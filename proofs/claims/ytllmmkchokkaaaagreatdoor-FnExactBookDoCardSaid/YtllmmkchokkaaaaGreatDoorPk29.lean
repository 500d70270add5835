import Derived.Test.YtllmmkchokkaaaaGreatDoorPk27
import Derived.Test.YtllmmkchokkaaaaGreatDoorPk28
set_option maxRecDepth 100000
set_option maxHeartbeats 8000000
namespace Go.Proofs.YtllmmkchokkaaaaGreatDoor
open Go.RowKit Go.Maps
abbrev obV (e:EO):Value:=.agg #[.string e.ob.kind,.string e.ob.name,.int .i64 e.ob.ver,.int .i64 e.ob.born,.string e.ob.text,.bool e.ob.ending,.slice e.A e.ob.hn e.C]
structure DkIn (w:World) (D K g:Nat) (B:Bk) (v:Wr) (L:List EO) (a1:Option Addr) (c1 pl:Nat) (fo:Bool):Prop where
 dk:DeskAt w D K v (pl:Nat) fo
 hD:D<w.1.size
 hK:K<w.1.size
 now:w.cell? ⟨K,0,none⟩=some (.int .i64 B.now)
 objs:w.cell? ⟨K,2,none⟩=some (.slice a1 B.on c1)
 row:RowS w a1 g c1 L
 ol:L.map EO.ob=tkL B.on B.os
 hold:∀ e ∈ L,StrsIn w 0 w.1.size e.A e.ob.hn e.ob.hs
 cap:∀ e ∈ L,CapOk e.ob.hn e.A e.C
 pa:PlaceAt B v pl
 fo:fo=(decide (pl<B.on)&&decide (kcI B.os v.kind v.name pl=0))
 ok:WOk B v
theorem DkIn.len {w:World} {D K g:Nat} {B:Bk} {v:Wr} {L:List EO} {a1:Option Addr} {c1 pl:Nat} {fo:Bool} (h:DkIn w D K g B v L a1 c1 pl fo):L.length=B.on:=by
 have:=congrArg List.length h.ol
 simpa [tkL] using this
theorem DkIn.at {w:World} {D K g:Nat} {B:Bk} {v:Wr} {L:List EO} {a1:Option Addr} {c1 pl:Nat} {fo:Bool} (h:DkIn w D K g B v L a1 c1 pl fo) {i:Nat} (hi:i<B.on):(ixE L i).ob=B.os i:=by
 have h1:=ixE_map (L:=L) (i:=i) (by rw [h.len];exact hi)
 rw [h.ol] at h1
 simpa [tkL,hi] using h1.symm
theorem DkIn.yes {w:World} {D K g:Nat} {B:Bk} {v:Wr} {L:List EO} {a1:Option Addr} {c1 pl:Nat} (h:DkIn w D K g B v L a1 c1 pl true):pl<B.on∧wOf B v=B.os pl∧fndIs B.os v.kind v.name B.on=true∧(B.os pl).kind=v.kind∧(B.os pl).name=v.name:=by
 have hf:=h.fo
 have h1:pl<B.on∧kcI B.os v.kind v.name pl=0:=by simpa using hf.symm
 have h2:=fnd_place h.ok h.pa
 rw [if_pos h1] at h2
 have h3:=(kc_nil _ _ _ _).1 h1.2
 exact ⟨h1.1,by unfold wOf fndOb;rw [h2],by unfold fndIs;rw [h2];rfl,h3.1,h3.2⟩
theorem DkIn.no {w:World} {D K g:Nat} {B:Bk} {v:Wr} {L:List EO} {a1:Option Addr} {c1 pl:Nat} (h:DkIn w D K g B v L a1 c1 pl false):wOf B v=ob0∧fndIs B.os v.kind v.name B.on=false:=by
 have hf:=h.fo
 have h1:¬(pl<B.on∧kcI B.os v.kind v.name pl=0):=by
  rintro ⟨h1,h2⟩
  simp [h1,h2] at hf
 have h2:=fnd_place h.ok h.pa
 rw [if_neg h1] at h2
 exact ⟨by unfold wOf fndOb;rw [h2],by unfold fndIs;rw [h2];rfl⟩
theorem DkIn.cells {w:World} {D K g:Nat} {B:Bk} {v:Wr} {L:List EO} {a1:Option Addr} {c1 pl:Nat} (h:DkIn w D K g B v L a1 c1 pl true):a1=some ⟨g,0,none⟩∧g<w.1.size∧ObCells w g (pl*7) (wOf B v) (ixE L pl).A (ixE L pl).C∧ixE L pl ∈ L:=by
 have hy:=h.yes
 have hlen:=h.len
 rcases h.row with ⟨_,hL,_⟩|⟨e1,e2,_⟩
 ·rw [hL] at hlen
  simp at hlen
  omega
 ·have h1:=e2.ob pl (by omega)
  rw [h.at hy.1,←hy.2.1] at h1
  exact ⟨e1,e2.lt,h1,ixE_mem (by omega)⟩
def OpPost (B:Bk) (v:Wr) (L:List EO) (pl:Nat) (w:World) (e:Ending) (w':World):Prop:=
 Below w.1.size w w' ∧
 (
   (¬oCode B v=0∧e=.returned (.tuple #[.agg #[.string ⟨#[]⟩,.string ⟨#[]⟩,.int .i64 0,.int .i64 0,.string ⟨#[]⟩,.bool false,.slice none 0 0],.iface 90 (.agg #[.int .i64 (oCode B v),.int .i64 (oVer B v)])])) ∨
   (oCode B v=0∧∃ E:EO,E.ob=opOb B v (wOf B v).ver∧e=.returned (.tuple #[obV E,.nilIface])∧StrsIn w' 0 w'.1.size E.A E.ob.hn E.ob.hs ∧
    (
      ((v.op=2∨v.op=3)∧E.A=(ixE L pl).A∧E.C=(ixE L pl).C∧E.hb=(ixE L pl).hb) ∨
      (¬v.op=2∧¬v.op=3∧w.1.size≤E.hb∧(E.ob.hn≠0→E.hb<w'.1.size)∧StrsOwn w' E.hb (E.hb+1) E.A E.ob.hn E.ob.hs))))
theorem oc_none {B:Bk} {v:Wr} (h:fndIs B.os v.kind v.name B.on=false) (h1:¬v.op=1):oCode B v=3∧oVer B v=0:=by
 have:oCode B v=3:=by unfold oCode;rw [if_pos (by rw [h];simp [h1])]
 exact ⟨this,by unfold oVer;rw [this];rfl⟩
theorem oc_there {B:Bk} {v:Wr} (h:fndIs B.os v.kind v.name B.on=true) (h1:v.op=1):oCode B v=3∧oVer B v=0:=by
 have:oCode B v=3:=by unfold oCode;rw [if_pos (by rw [h];simp [h1])]
 exact ⟨this,by unfold oVer;rw [this];rfl⟩
theorem oc_stale {B:Bk} {v:Wr} (h:fndIs B.os v.kind v.name B.on=true) (h1:¬v.op=1) (h2:¬v.seen=0∧¬v.seen=(wOf B v).ver):oCode B v=4∧oVer B v=(wOf B v).ver:=by
 have:oCode B v=4:=by unfold oCode;rw [if_neg (by rw [h];simp [h1]),if_pos h2]
 exact ⟨this,by unfold oVer;rw [this];rfl⟩
theorem oc_end {B:Bk} {v:Wr} (h:fndIs B.os v.kind v.name B.on=true) (h1:¬v.op=1) (h2:¬(¬v.seen=0∧¬v.seen=(wOf B v).ver)) (h3:(wOf B v).ending=true) (h5:¬v.op=5):oCode B v=5∧oVer B v=0:=by
 have:oCode B v=5:=by unfold oCode;rw [if_neg (by rw [h];simp [h1]),if_neg h2,if_pos ⟨h3,h5⟩]
 exact ⟨this,by unfold oVer;rw [this];rfl⟩
theorem oc_go {B:Bk} {v:Wr} (h:fndIs B.os v.kind v.name B.on=true) (h1:¬v.op=1) (h2:¬(¬v.seen=0∧¬v.seen=(wOf B v).ver)) (h3:¬((wOf B v).ending=true∧¬v.op=5)) :
  oCode B v=if v.op=4 then (if hasB (wOf B v).hn (wOf B v).hs v.hold=true then 6 else if 5≤(wOf B v).hn then 7 else 0) else if v.op=5 then (if hasB (wOf B v).hn (wOf B v).hs v.hold=true then 0 else 6) else 0:=by
 unfold oCode
 rw [if_neg (by rw [h];simp [h1]),if_neg h2,if_neg h3,if_neg h1]
theorem oc_new {B:Bk} {v:Wr} (h:fndIs B.os v.kind v.name B.on=false) (hw:wOf B v=ob0) (h1:v.op=1) (hs:v.seen=0):oCode B v=if 100≤B.on then 7 else 0:=by
 unfold oCode
 rw [if_neg (by rw [h];simp [h1]),if_neg (fun q=>q.1 hs),if_neg (by rw [hw];simp [ob0]),if_pos h1]
theorem ov_not4 {B:Bk} {v:Wr} (h:¬oCode B v=4):oVer B v=0:=if_neg h
theorem rowC_strs {w:World} {A:Option Addr} {n C:Nat} {s:Nat→ByteArray} (h:StrsIn w 0 w.1.size A n s) (hc:CapOk n A C):∃ b off,RowC w 1 A b off n C (strCells n s):=by
 rcases Nat.eq_zero_or_pos n with h0|h0
 ·have e:=hc.2.2 h0
  exact ⟨0,0,by rw [strCells_len,Nat.mul_one],strCells_one _ _,Or.inl ⟨e,h0,hc.2.1 e⟩⟩
 ·obtain ⟨b,off,e,_,hb,_⟩:=h 0 h0
  refine ⟨b,off,by rw [strCells_len,Nat.mul_one],strCells_one _ _,Or.inr ⟨e,hc.1,hb,fun t u hu=>?_⟩⟩
  obtain ⟨ht,rfl⟩:=strCells_get hu
  obtain ⟨b',off',e',_,_,hcell⟩:=h t ht
  rw [e] at e'
  cases e'
  exact hcell
theorem own_strs {w:World} {base n:Nat} {a:Option Addr} {c:Nat} {s:Nat→ByteArray} {xs:List Value} (h:w.ownsRow base 9 1 (.slice a n c) n xs) (hx:xs=strCells n s):∃ hb,base≤hb∧(n≠0→hb<w.1.size)∧StrsOwn w hb (hb+1) a n s:=by
 subst hx
 rcases h.2 with ⟨_,e2⟩|⟨g,cap',cur,e1,e2,e3,e4⟩
 ·subst e2
  exact ⟨base,Nat.le_refl _,fun q=>absurd rfl q,fun i hi=>absurd hi (Nat.not_lt_zero _)⟩
 ·cases e1
  refine ⟨g,e2,fun _=>(Array.getElem?_eq_some_iff.1 e3).1,fun i hi=>⟨g,0,rfl,Nat.le_refl _,Nat.lt_succ_self _,?_,?_⟩⟩
  ·rw [Nat.zero_add,h.cellAt i (by omega)]
   exact strCells_at hi
  ·exact h.frozenAt _
theorem strs_ins (n:Nat) (s:Nat→ByteArray) (k:Nat) (a:ByteArray) (hk:k≤n):(strCells n s).take (k*1) ++ [.string a] ++ (strCells n s).drop (k*1)=strCells (n+1) (insS s k a):=by
 refine List.ext_getElem? fun j=>?_
 rw [Nat.mul_one,List.append_assoc]
 have hl:=strCells_len n s
 rcases Nat.lt_or_ge j k with h|h
 ·rw [List.getElem?_append_left (by rw [List.length_take];omega),List.getElem?_take,if_pos h,strCells_at (by omega),strCells_at (by omega)]
  simp [insS,h]
 ·rw [List.getElem?_append_right (by rw [List.length_take];omega),List.length_take,hl,Nat.min_eq_left hk]
  rcases Nat.eq_or_lt_of_le h with h1|h1
  ·subst h1
   rw [Nat.sub_self,strCells_at (by omega)]
   simp [insS]
  ·obtain ⟨d,rfl⟩:∃ d,j=k+1+d:=⟨j-k-1,by omega⟩
   rw [show k+1+d-k=d+1 by omega]
   simp only [List.singleton_append,List.getElem?_cons_succ]
   rw [List.getElem?_drop]
   rcases Nat.lt_or_ge (k+d) n with h2|h2
   ·rw [strCells_at h2,strCells_at (by omega)]
    simp only [insS]
    rw [if_neg (by omega),if_neg (by omega),show k+1+d-1=k+d by omega]
   ·rw [List.getElem?_eq_none (by omega),List.getElem?_eq_none (by rw [strCells_len];omega)]
theorem strs_rem (n:Nat) (s:Nat→ByteArray) (k:Nat) (hk:k<n):(strCells n s).take (k*1) ++ (strCells n s).drop ((k+1)*1)=strCells (n-1) (remS s k):=by
 refine List.ext_getElem? fun j=>?_
 rw [Nat.mul_one,Nat.mul_one]
 have hl:=strCells_len n s
 rcases Nat.lt_or_ge j k with h|h
 ·rw [List.getElem?_append_left (by rw [List.length_take];omega),List.getElem?_take,if_pos h,strCells_at (by omega),strCells_at (by omega)]
  simp [remS,h]
 ·rw [List.getElem?_append_right (by rw [List.length_take];omega),List.length_take,hl,Nat.min_eq_left (by omega),List.getElem?_drop]
  rcases Nat.lt_or_ge (k+1+(j-k)) n with h2|h2
  ·rw [strCells_at h2,strCells_at (by omega)]
   simp only [remS]
   rw [if_neg (by omega),show k+1+(j-k)=j+1 by omega]
  ·rw [List.getElem?_eq_none (by omega),List.getElem?_eq_none (by rw [strCells_len];omega)]
theorem StrsOwn.inW {w:World} {b:Nat} {A:Option Addr} {n:Nat} {s:Nat→ByteArray} (h:StrsOwn w b (b+1) A n s) (hb:n≠0→b<w.1.size):StrsIn w 0 w.1.size A n s:=fun i hi=>by
 obtain ⟨b',off,e1,e2,e3,e4,_⟩:=h i hi
 have:=hb (by omega)
 exact ⟨b',off,e1,Nat.zero_le _,by omega,e4⟩
theorem DkIn.grow {w:World} {D K g:Nat} {B:Bk} {v:Wr} {L:List EO} {a1:Option Addr} {c1 pl:Nat} {fo:Bool} {w':World} (h:DkIn w D K g B v L a1 c1 pl fo) (hb:Below w.1.size w w'):DkIn w' D K g B v L a1 c1 pl fo:=
 ⟨h.dk.grow hb h.hD,Nat.lt_of_lt_of_le h.hD hb.size,Nat.lt_of_lt_of_le h.hK hb.size,(hb.cell (p:=⟨K,0,none⟩) h.hK).trans h.now,(hb.cell (p:=⟨K,2,none⟩) h.hK).trans h.objs,h.row.grow hb,h.ol,fun e he=>((h.hold e he).below hb (Nat.le_refl _)).mono (Nat.le_refl _) hb.size,h.cap,h.pa,h.fo,h.ok⟩
theorem st_no {w:World} {D K g:Nat} {B:Bk} {v:Wr} {L:List EO} {a1:Option Addr} {c1 pl:Nat} (h:DkIn w D K g B v L a1 c1 pl false):Calls Tryz.prog 157 #[.pointer (some ⟨D,0,none⟩)] w fun e w'=>e=.returned (.tuple #[.agg #[.string ⟨#[]⟩,.string ⟨#[]⟩,.int .i64 0,.int .i64 0,.string ⟨#[]⟩,.bool false,.slice none 0 0],.iface 90 (.agg #[.int .i64 3,.int .i64 0])])∧Below w.1.size w w':=standing_no D K v pl w h.hD h.dk
theorem st_stale {w:World} {D K g:Nat} {B:Bk} {v:Wr} {L:List EO} {a1:Option Addr} {c1 pl:Nat} (h:DkIn w D K g B v L a1 c1 pl true) (hs:¬v.seen=0∧¬v.seen=(wOf B v).ver):Calls Tryz.prog 157 #[.pointer (some ⟨D,0,none⟩)] w fun e w'=>e=.returned (.tuple #[.agg #[.string ⟨#[]⟩,.string ⟨#[]⟩,.int .i64 0,.int .i64 0,.string ⟨#[]⟩,.bool false,.slice none 0 0],.iface 90 (.agg #[.int .i64 4,.int .i64 (wOf B v).ver])])∧Below w.1.size w w':=by
 obtain ⟨e1,e2,e3,_⟩:=h.cells
 have ho:=h.objs
 rw [e1] at ho
 have hon:=h.ok.on
 exact standing_stale D K v pl B.on (wOf B v) g (ixE L pl).A (ixE L pl).C c1 w e2 h.hD h.hK h.dk ho h.yes.1 (by omega) e3 hs.1 hs.2
theorem st_ok {w:World} {D K g:Nat} {B:Bk} {v:Wr} {L:List EO} {a1:Option Addr} {c1 pl:Nat} (h:DkIn w D K g B v L a1 c1 pl true) (hs:¬(¬v.seen=0∧¬v.seen=(wOf B v).ver)):Calls Tryz.prog 157 #[.pointer (some ⟨D,0,none⟩)] w fun e w'=>e=.returned (.tuple #[.agg #[.string (wOf B v).kind,.string (wOf B v).name,.int .i64 (wOf B v).ver,.int .i64 (wOf B v).born,.string (wOf B v).text,.bool (wOf B v).ending,.slice (ixE L pl).A (wOf B v).hn (ixE L pl).C],.nilIface])∧Below w.1.size w w':=by
 obtain ⟨e1,e2,e3,_⟩:=h.cells
 have ho:=h.objs
 rw [e1] at ho
 have hon:=h.ok.on
 exact standing_ok D K v pl B.on (wOf B v) g (ixE L pl).A (ixE L pl).C c1 w e2 h.hD h.hK h.dk ho h.yes.1 (by omega) e3 (by
  by_cases q:v.seen=0
  ·exact Or.inl q
  ·exact Or.inr (by
    by_cases r:v.seen=(wOf B v).ver
    ·exact r
    ·exact absurd ⟨q,r⟩ hs))
theorem op_err {B:Bk} {v:Wr} {L:List EO} {pl:Nat} {w:World} {f:FuncId} {D:Nat} {c d:Int} (h:Calls Tryz.prog f #[.pointer (some ⟨D,0,none⟩)] w fun e w'=>e=.returned (.tuple #[.agg #[.string ⟨#[]⟩,.string ⟨#[]⟩,.int .i64 0,.int .i64 0,.string ⟨#[]⟩,.bool false,.slice none 0 0],.iface 90 (.agg #[.int .i64 c,.int .i64 d])])∧Below w.1.size w w') (hc:oCode B v=c∧oVer B v=d) (h0:¬c=0):Calls Tryz.prog f #[.pointer (some ⟨D,0,none⟩)] w (OpPost B v L pl w):=
 h.mono fun e w' ⟨h1,h2⟩=>⟨h2,Or.inl ⟨by rw [hc.1];exact h0,by rw [h1,hc.1,hc.2]⟩⟩
theorem held_of {w:World} {D K g:Nat} {B:Bk} {v:Wr} {L:List EO} {a1:Option Addr} {c1 pl:Nat} (h:DkIn w D K g B v L a1 c1 pl true):StrsIn w 0 w.1.size (ixE L pl).A (wOf B v).hn (wOf B v).hs∧CapOk (wOf B v).hn (ixE L pl).A (ixE L pl).C∧(wOf B v).hn≤5∧HsAsc (wOf B v).hn (wOf B v).hs:=by
 obtain ⟨_,_,_,hm⟩:=h.cells
 have hy:=h.yes
 have e:=h.at hy.1
 have h1:=h.hold _ hm
 have h2:=h.cap _ hm
 rw [e,←hy.2.1] at h1 h2
 have h3:=h.ok.hold pl hy.1
 rw [←hy.2.1] at h3
 exact ⟨h1,h2,h3.1,h3.2⟩
theorem op2_any {w:World} {D K g:Nat} {B:Bk} {v:Wr} {L:List EO} {a1:Option Addr} {c1 pl:Nat} {fo:Bool} (h:DkIn w D K g B v L a1 c1 pl fo) (hop:v.op=2):Calls Tryz.prog 98 #[.pointer (some ⟨D,0,none⟩)] w (OpPost B v L pl w):=by
 have n1:¬v.op=1:=by omega
 have n5:¬v.op=5:=by omega
 cases fo with
 | false=>exact op_err (update_err D 3 0 w fun o=>lasting_err D 3 0 _ fun o'=>st_no ((h.grow (below_alloc _ o)).grow (below_alloc _ o'))) (oc_none h.no.2 n1) (by decide)
 | true=>
  have hy:=h.yes
  by_cases hs:¬v.seen=0∧¬v.seen=(wOf B v).ver
  ·exact op_err (update_err D 4 _ w fun o=>lasting_err D 4 _ _ fun o'=>st_stale ((h.grow (below_alloc _ o)).grow (below_alloc _ o')) hs) (oc_stale hy.2.2.1 n1 hs) (by decide)
  ·by_cases he:(wOf B v).ending=true
   ·exact op_err (update_err D 5 0 w fun o=>lasting_end D (wOf B v) _ _ _ (fun o'=>st_ok ((h.grow (below_alloc _ o)).grow (below_alloc _ o')) hs) he) (oc_end hy.2.2.1 n1 hs he n5) (by decide)
   ·have he':(wOf B v).ending=false:=by simpa using he
    have hc:=oc_go hy.2.2.1 n1 hs (fun q=>he q.1)
    rw [if_neg (by omega),if_neg n5] at hc
    refine (update_ok D K v pl true (wOf B v) (ixE L pl).A (ixE L pl).C w h.hD h.dk (fun o=>lasting_ok D (wOf B v) _ _ _ (fun o'=>st_ok ((h.grow (below_alloc _ o)).grow (below_alloc _ o')) hs) he')).mono ?_
    rintro e w' ⟨rfl,hb⟩
    refine ⟨hb,Or.inr ⟨hc,⟨opOb B v (wOf B v).ver,(ixE L pl).A,(ixE L pl).C,(ixE L pl).hb⟩,rfl,?_,?_,Or.inl ⟨Or.inl hop,rfl,rfl,rfl⟩⟩⟩
    ·simp only [opOb,hop]
     rfl
    ·have h1:=((held_of h).1.below hb (Nat.le_refl _)).mono (Nat.le_refl _) hb.size
     simp only [opOb,hop]
     exact h1
theorem op3_any {w:World} {D K g:Nat} {B:Bk} {v:Wr} {L:List EO} {a1:Option Addr} {c1 pl:Nat} {fo:Bool} (h:DkIn w D K g B v L a1 c1 pl fo) (hop:v.op=3):Calls Tryz.prog 99 #[.pointer (some ⟨D,0,none⟩)] w (OpPost B v L pl w):=by
 have n1:¬v.op=1:=by omega
 have n5:¬v.op=5:=by omega
 cases fo with
 | false=>exact op_err (end_err D 3 0 w fun o=>lasting_err D 3 0 _ fun o'=>st_no ((h.grow (below_alloc _ o)).grow (below_alloc _ o'))) (oc_none h.no.2 n1) (by decide)
 | true=>
  have hy:=h.yes
  by_cases hs:¬v.seen=0∧¬v.seen=(wOf B v).ver
  ·exact op_err (end_err D 4 _ w fun o=>lasting_err D 4 _ _ fun o'=>st_stale ((h.grow (below_alloc _ o)).grow (below_alloc _ o')) hs) (oc_stale hy.2.2.1 n1 hs) (by decide)
  ·by_cases he:(wOf B v).ending=true
   ·exact op_err (end_err D 5 0 w fun o=>lasting_end D (wOf B v) _ _ _ (fun o'=>st_ok ((h.grow (below_alloc _ o)).grow (below_alloc _ o')) hs) he) (oc_end hy.2.2.1 n1 hs he n5) (by decide)
   ·have he':(wOf B v).ending=false:=by simpa using he
    have hc:=oc_go hy.2.2.1 n1 hs (fun q=>he q.1)
    rw [if_neg (by omega),if_neg n5] at hc
    refine (end_ok D K v pl true (wOf B v) (ixE L pl).A (ixE L pl).C w h.hD h.dk (fun o=>lasting_ok D (wOf B v) _ _ _ (fun o'=>st_ok ((h.grow (below_alloc _ o)).grow (below_alloc _ o')) hs) he')).mono ?_
    rintro e w' ⟨rfl,hb⟩
    refine ⟨hb,Or.inr ⟨hc,⟨opOb B v (wOf B v).ver,(ixE L pl).A,(ixE L pl).C,(ixE L pl).hb⟩,rfl,?_,?_,Or.inl ⟨Or.inr hop,rfl,rfl,rfl⟩⟩⟩
    ·simp only [opOb,hop]
     rfl
    ·have h1:=((held_of h).1.below hb (Nat.le_refl _)).mono (Nat.le_refl _) hb.size
     simp only [opOb,hop]
     exact h1
theorem op1_any {w:World} {D K g:Nat} {B:Bk} {v:Wr} {L:List EO} {a1:Option Addr} {c1 pl:Nat} {fo:Bool} (h:DkIn w D K g B v L a1 c1 pl fo) (hop:v.op=1):Calls Tryz.prog 97 #[.pointer (some ⟨D,0,none⟩)] w (OpPost B v L pl w):=by
 cases fo with
 | true=>exact op_err (create_found D K v pl w h.hD h.dk) (oc_there h.yes.2.2.1 hop) (by decide)
 | false=>
  have hn:=h.no
  have hs:v.seen=0:=by
   have:=h.ok.wr
   unfold wrB at this
   rw [Bool.and_eq_true] at this
   have h2:=this.2
   unfold useB at h2
   rw [if_pos hop] at h2
   exact of_decide_eq_true h2
  have hc:=oc_new hn.2 hn.1 hop hs
  have hon:=h.ok.on
  by_cases h100:B.on=100
  ·rw [if_pos (by omega)] at hc
   exact op_err (create_full D K v pl a1 B.on c1 w h.hD h.hK h.dk h.objs h100) ⟨hc,ov_not4 (by rw [hc];decide)⟩ (by decide)
  ·rw [if_neg (by omega)] at hc
   by_cases hh:v.hold=⟨#[]⟩
   ·refine (create_ok0 D K v pl a1 B.on c1 B.now w h.hD h.hK h.dk h.objs h100 h.now h.ok.now0 h.ok.now1 hh).mono ?_
    rintro e w' ⟨rfl,hb⟩
    have e0:emB v.hold=true:=by simp [emB,hh]
    refine ⟨hb,Or.inr ⟨hc,⟨opOb B v (wOf B v).ver,none,0,w.1.size⟩,rfl,?_,?_,Or.inr ⟨by omega,by omega,Nat.le_refl _,fun q=>?_,?_⟩⟩⟩
    ·simp only [opOb,hop,hn.1,e0]
     rfl
    ·simp only [opOb,hop,e0]
     exact fun i hi=>absurd hi (Nat.not_lt_zero _)
    ·simp [opOb,hop,e0] at q
    ·simp only [opOb,hop,e0]
     exact fun i hi=>absurd hi (Nat.not_lt_zero _)
   ·refine (create_ok1 D K v pl a1 B.on c1 B.now w h.hD h.hK h.dk h.objs h100 h.now h.ok.now0 h.ok.now1 hh).mono ?_
    rintro e w' ⟨b,rfl,z1,z2,hcell,hfr,hb⟩
    have e0:emB v.hold=false:=by simp [emB,hh]
    have ho:StrsOwn w' b (b+1) (some ⟨b,0,none⟩) 1 (fun _=>v.hold):=fun i hi=>by
     obtain rfl:i=0:=by omega
     exact ⟨b,0,rfl,Nat.le_refl _,Nat.lt_succ_self _,hcell,hfr⟩
    refine ⟨hb,Or.inr ⟨hc,⟨opOb B v (wOf B v).ver,some ⟨b,0,none⟩,1,b⟩,rfl,?_,?_,Or.inr ⟨by omega,by omega,z1,fun _=>z2,?_⟩⟩⟩
    ·simp only [opOb,hop,hn.1,e0]
     rfl
    ·simp only [opOb,hop,e0]
     exact ho.inW (fun _=>z2)
    ·simp only [opOb,hop,e0]
     exact ho
theorem op4_any {w:World} {D K g:Nat} {B:Bk} {v:Wr} {L:List EO} {a1:Option Addr} {c1 pl:Nat} {fo:Bool} (h:DkIn w D K g B v L a1 c1 pl fo) (hop:v.op=4):Calls Tryz.prog 100 #[.pointer (some ⟨D,0,none⟩)] w (OpPost B v L pl w):=by
 have n1:¬v.op=1:=by omega
 have n5:¬v.op=5:=by omega
 cases fo with
 | false=>exact op_err (hold_err D 3 0 w fun o=>lasting_err D 3 0 _ fun o'=>st_no ((h.grow (below_alloc _ o)).grow (below_alloc _ o'))) (oc_none h.no.2 n1) (by decide)
 | true=>
  have hy:=h.yes
  by_cases hs:¬v.seen=0∧¬v.seen=(wOf B v).ver
  ·exact op_err (hold_err D 4 _ w fun o=>lasting_err D 4 _ _ fun o'=>st_stale ((h.grow (below_alloc _ o)).grow (below_alloc _ o')) hs) (oc_stale hy.2.2.1 n1 hs) (by decide)
  ·by_cases he:(wOf B v).ending=true
   ·exact op_err (hold_err D 5 0 w fun o=>lasting_end D (wOf B v) _ _ _ (fun o'=>st_ok ((h.grow (below_alloc _ o)).grow (below_alloc _ o')) hs) he) (oc_end hy.2.2.1 n1 hs he n5) (by decide)
   ·have he':(wOf B v).ending=false:=by simpa using he
    have hc:=oc_go hy.2.2.1 n1 hs (fun q=>he q.1)
    rw [if_pos hop] at hc
    obtain ⟨g1,g2,g3,g4⟩:=held_of h
    obtain ⟨rb,ro,hrc⟩:=rowC_strs g1 g2
    have HL:=fun o=>lasting_ok D (wOf B v) (ixE L pl).A (ixE L pl).C (w.alloc o) (fun o'=>st_ok ((h.grow (below_alloc _ o)).grow (below_alloc _ o')) hs) he'
    cases hh:hasB (wOf B v).hn (wOf B v).hs v.hold with
    | true=>
     rw [if_pos hh] at hc
     exact op_err (hold_has D K v pl true (wOf B v) _ rb ro _ w h.hD h.dk HL (by omega) g1 g4 hrc hh) ⟨hc,ov_not4 (by rw [hc];decide)⟩ (by decide)
    | false=>
     rw [if_neg (by rw [hh];decide)] at hc
     by_cases h5:(wOf B v).hn=5
     ·rw [if_pos (by omega)] at hc
      exact op_err (hold_full D K v pl true (wOf B v) _ rb ro _ w h.hD h.dk HL (by omega) g1 g4 hrc hh h5) ⟨hc,ov_not4 (by rw [hc];decide)⟩ (by decide)
     ·rw [if_neg (by omega)] at hc
      refine (hold_ok D K v pl true (wOf B v) _ rb ro _ w h.hD h.dk HL (by omega) g1 g4 hrc hh h5).mono ?_
      rintro e w' ⟨a4,c4,rfl,hown,hb⟩
      obtain ⟨hb4,z1,z2,ho⟩:=own_strs hown (strs_ins _ _ _ _ (rkS_is _ _ _).1)
      refine ⟨hb,Or.inr ⟨hc,⟨opOb B v (wOf B v).ver,a4,c4,hb4⟩,rfl,?_,?_,Or.inr ⟨by omega,by omega,z1,fun _=>z2 (by omega),?_⟩⟩⟩
      ·simp only [opOb,hop]
       rfl
      ·simp only [opOb,hop]
       exact ho.inW (fun _=>z2 (by omega))
      ·simp only [opOb,hop]
       exact ho
theorem op5_any {w:World} {D K g:Nat} {B:Bk} {v:Wr} {L:List EO} {a1:Option Addr} {c1 pl:Nat} {fo:Bool} (h:DkIn w D K g B v L a1 c1 pl fo) (hop:v.op=5):Calls Tryz.prog 101 #[.pointer (some ⟨D,0,none⟩)] w (OpPost B v L pl w):=by
 have n1:¬v.op=1:=by omega
 cases fo with
 | false=>exact op_err (letGo_err D 3 0 w fun o=>st_no (h.grow (below_alloc _ o))) (oc_none h.no.2 n1) (by decide)
 | true=>
  have hy:=h.yes
  by_cases hs:¬v.seen=0∧¬v.seen=(wOf B v).ver
  ·exact op_err (letGo_err D 4 _ w fun o=>st_stale (h.grow (below_alloc _ o)) hs) (oc_stale hy.2.2.1 n1 hs) (by decide)
  ·have hc:=oc_go hy.2.2.1 n1 hs (fun q=>q.2 hop)
   rw [if_neg (by omega),if_pos hop] at hc
   obtain ⟨g1,g2,g3,g4⟩:=held_of h
   obtain ⟨rb,ro,hrc⟩:=rowC_strs g1 g2
   have HL:=fun o=>st_ok (h.grow (below_alloc _ o)) hs
   cases hh:hasB (wOf B v).hn (wOf B v).hs v.hold with
   | false=>
    rw [if_neg (by rw [hh];decide)] at hc
    exact op_err (letGo_not D K v pl true (wOf B v) _ rb ro _ w h.hD h.dk HL (by omega) g1 g4 hrc hh) ⟨hc,ov_not4 (by rw [hc];decide)⟩ (by decide)
   | true=>
    rw [if_pos hh] at hc
    have hk:rkS (wOf B v).hs v.hold (wOf B v).hn<(wOf B v).hn:=by
     rw [has_rk g4,Bool.and_eq_true] at hh
     exact of_decide_eq_true hh.1
    refine (letGo_ok D K v pl true (wOf B v) _ rb ro _ w h.hD h.dk HL (by omega) g1 g4 hrc hh hk).mono ?_
    rintro e w' ⟨a4,c4,rfl,hown,hb⟩
    obtain ⟨hb4,z1,z2,ho⟩:=own_strs hown (strs_rem _ _ _ hk)
    refine ⟨hb,Or.inr ⟨hc,⟨opOb B v (wOf B v).ver,a4,c4,hb4⟩,rfl,?_,?_,Or.inr ⟨by omega,by omega,z1,fun q=>z2 ?_,?_⟩⟩⟩
    ·simp only [opOb,hop]
     rfl
    ·simp only [opOb,hop]
     exact ho.inW z2
    ·simpa [opOb,hop] using q
    ·simp only [opOb,hop]
     exact ho
theorem chg3_there (B:Bk) (v:Wr) (a1 a2 a3:Option Addr) (c1 c2 c3:Nat) (o:Ob) (w:World) (hok:WOk B v) (hc:ObjsIn w 0 w.1.size a1 B.on B.os) (ho:fndOb B.os v.kind v.name B.on=o) (_hol:(o.hn:Int)≤5) (ht:fndIs B.os v.kind v.name B.on=true) (hop:v.op=1) :
  Calls Tryz.prog 75 #[.agg #[.int .i64 B.now,.int .i64 B.floor,.slice a1 B.on c1,.slice a2 B.hn c2,.slice a3 B.tn c3],.agg #[.int .i64 v.op,.string v.kind,.string v.name,.int .i64 v.seen,.string v.text,.string v.hold]] w fun e w'=>e=.returned (.tuple #[.agg #[.int .i64 0,.bool false,.string ⟨#[]⟩,.string ⟨#[]⟩,.int .i64 0,.int .i64 0,.string ⟨#[]⟩,.bool false,.slice none 0 0],.int .i64 3])∧Below w.1.size w w':=by
 have B3:∀ o1 o2 o3,Below w.1.size w (((w.alloc o1).alloc o2).alloc o3):=fun o1 o2 o3=>(((Below.refl _ _).alloc (Nat.le_refl _) _).alloc (by simp) _).alloc (by simp;omega) _
 have HB3:=hid B3
 have HOK:=hid hok
 have HC:=hid hc
 have HO:=hid ho
 have hn0:=hok.now0
 have hn1:=hok.now1
 have hon:(B.on:Int)≤100:=by have:=hok.on;omega
 clear hok hc ho B3
 have HT:=hid ht
 have HOP:=hid hop
 clear ht hop
 go_enter Tryz.func75,Tryz.ntmps75
 go_wp2_with fail
 refine (specFind_any B.now B.floor B.on B.os a1 a2 a3 c1 B.hn c2 B.tn c3 v.kind v.name _ 0 w.1.size (by simp;omega) (by omega) HOK.out.fit.os (HC.out.below (HB3.out _ _ _) (Nat.le_refl _))).mono ?_
 rintro e w1 ⟨A,C,rfl,hcap,hst,hb1⟩
 rw [HO.out] at hcap hst
 rw [HO.out,HT.out]
 have z1:w.1.size+1+1<w1.1.size:=by have:=hb1.size;simp at this;omega
 have zA:w.1.size<w1.1.size:=by omega
 have zB:w.1.size+1<w1.1.size:=by omega
 obtain ⟨X0,X1,X2,Y1,Y2⟩:=three_cell hb1
 have b0:=X0 0
 have b1:=X0 1
 have b2:=X0 2
 have b3:=X0 3
 have b4:=X0 4
 have p0:=X1 0
 have p1:=X1 1
 have p2:=X1 2
 have p3:=X1 3
 have p4:=X1 4
 have p5:=X1 5
 have r0:=X2 0
 have r1:=X2 1
 have r2:=X2 2
 have r3:=X2 3
 have r4:=X2 4
 have r5:=X2 5
 have r6:=X2 6
 have r7:=X2 7
 have r8:=X2 8
 simp only [List.getElem?_toArray,List.getElem?_cons_succ,List.getElem?_cons_zero] at b0 b1 b2 b3 b4 p0 p1 p2 p3 p4 p5 r0 r1 r2 r3 r4 r5 r6 r7 r8
 have HB:=hid ((HB3.out _ _ _).trans (hb1.mono (by simp;omega)))
 have HST:=hid hst
 clear X0 X1 X2 hb1 hst
 rw [HOP.out] at p0
 go_wp2
 refine bodyPost_ret (v:=.tuple #[.agg #[.int .i64 0,.bool false,.string ⟨#[]⟩,.string ⟨#[]⟩,.int .i64 0,.int .i64 0,.string ⟨#[]⟩,.bool false,.slice none 0 0],.int .i64 3]) (by simp [results,Tryz.results75,go_sem,r0,r1,r2,r3,r4,r5,r6,r7,r8,z1]) rfl ⟨rfl,by repeat (first|with_reducible exact HB.out|with_reducible refine Below.setCell ?_ (by first|omega|(simp;omega)) _|with_reducible refine Below.alloc ?_ (by first|omega|(simp;omega)) _|with_reducible refine Below.drew ?_)⟩
theorem chg3_none (B:Bk) (v:Wr) (a1 a2 a3:Option Addr) (c1 c2 c3:Nat) (o:Ob) (w:World) (hok:WOk B v) (hc:ObjsIn w 0 w.1.size a1 B.on B.os) (ho:fndOb B.os v.kind v.name B.on=o) (_hol:(o.hn:Int)≤5) (ht:fndIs B.os v.kind v.name B.on=false) (hop:¬v.op=1) :
  Calls Tryz.prog 75 #[.agg #[.int .i64 B.now,.int .i64 B.floor,.slice a1 B.on c1,.slice a2 B.hn c2,.slice a3 B.tn c3],.agg #[.int .i64 v.op,.string v.kind,.string v.name,.int .i64 v.seen,.string v.text,.string v.hold]] w fun e w'=>e=.returned (.tuple #[.agg #[.int .i64 0,.bool false,.string ⟨#[]⟩,.string ⟨#[]⟩,.int .i64 0,.int .i64 0,.string ⟨#[]⟩,.bool false,.slice none 0 0],.int .i64 3])∧Below w.1.size w w':=by
 have B3:∀ o1 o2 o3,Below w.1.size w (((w.alloc o1).alloc o2).alloc o3):=fun o1 o2 o3=>(((Below.refl _ _).alloc (Nat.le_refl _) _).alloc (by simp) _).alloc (by simp;omega) _
 have HB3:=hid B3
 have HOK:=hid hok
 have HC:=hid hc
 have HO:=hid ho
 have hn0:=hok.now0
 have hn1:=hok.now1
 have hon:(B.on:Int)≤100:=by have:=hok.on;omega
 clear hok hc ho B3
 have HT:=hid ht
 have hop1:(v.op==1)=false:=by simpa using hop
 clear ht hop
 go_enter Tryz.func75,Tryz.ntmps75
 go_wp2_with fail
 refine (specFind_any B.now B.floor B.on B.os a1 a2 a3 c1 B.hn c2 B.tn c3 v.kind v.name _ 0 w.1.size (by simp;omega) (by omega) HOK.out.fit.os (HC.out.below (HB3.out _ _ _) (Nat.le_refl _))).mono ?_
 rintro e w1 ⟨A,C,rfl,hcap,hst,hb1⟩
 rw [HO.out] at hcap hst
 rw [HO.out,HT.out]
 have z1:w.1.size+1+1<w1.1.size:=by have:=hb1.size;simp at this;omega
 have zA:w.1.size<w1.1.size:=by omega
 have zB:w.1.size+1<w1.1.size:=by omega
 obtain ⟨X0,X1,X2,Y1,Y2⟩:=three_cell hb1
 have b0:=X0 0
 have b1:=X0 1
 have b2:=X0 2
 have b3:=X0 3
 have b4:=X0 4
 have p0:=X1 0
 have p1:=X1 1
 have p2:=X1 2
 have p3:=X1 3
 have p4:=X1 4
 have p5:=X1 5
 have r0:=X2 0
 have r1:=X2 1
 have r2:=X2 2
 have r3:=X2 3
 have r4:=X2 4
 have r5:=X2 5
 have r6:=X2 6
 have r7:=X2 7
 have r8:=X2 8
 simp only [List.getElem?_toArray,List.getElem?_cons_succ,List.getElem?_cons_zero] at b0 b1 b2 b3 b4 p0 p1 p2 p3 p4 p5 r0 r1 r2 r3 r4 r5 r6 r7 r8
 have HB:=hid ((HB3.out _ _ _).trans (hb1.mono (by simp;omega)))
 have HST:=hid hst
 clear X0 X1 X2 hb1 hst
 go_wp2
 refine bodyPost_ret (v:=.tuple #[.agg #[.int .i64 0,.bool false,.string ⟨#[]⟩,.string ⟨#[]⟩,.int .i64 0,.int .i64 0,.string ⟨#[]⟩,.bool false,.slice none 0 0],.int .i64 3]) (by simp [results,Tryz.results75,go_sem,r0,r1,r2,r3,r4,r5,r6,r7,r8,z1]) rfl ⟨rfl,by repeat (first|with_reducible exact HB.out|with_reducible refine Below.setCell ?_ (by first|omega|(simp;omega)) _|with_reducible refine Below.alloc ?_ (by first|omega|(simp;omega)) _|with_reducible refine Below.drew ?_)⟩
theorem chg4 (B:Bk) (v:Wr) (a1 a2 a3:Option Addr) (c1 c2 c3:Nat) (o:Ob) (w:World) (hok:WOk B v) (hc:ObjsIn w 0 w.1.size a1 B.on B.os) (ho:fndOb B.os v.kind v.name B.on=o) (_hol:(o.hn:Int)≤5) (ht:fndIs B.os v.kind v.name B.on=true) (hop:¬v.op=1) (hs:¬v.seen=0) (hv:¬v.seen=o.ver) :
  Calls Tryz.prog 75 #[.agg #[.int .i64 B.now,.int .i64 B.floor,.slice a1 B.on c1,.slice a2 B.hn c2,.slice a3 B.tn c3],.agg #[.int .i64 v.op,.string v.kind,.string v.name,.int .i64 v.seen,.string v.text,.string v.hold]] w fun e w'=>e=.returned (.tuple #[.agg #[.int .i64 0,.bool false,.string ⟨#[]⟩,.string ⟨#[]⟩,.int .i64 0,.int .i64 0,.string ⟨#[]⟩,.bool false,.slice none 0 0],.int .i64 4])∧Below w.1.size w w':=by
 have B3:∀ o1 o2 o3,Below w.1.size w (((w.alloc o1).alloc o2).alloc o3):=fun o1 o2 o3=>(((Below.refl _ _).alloc (Nat.le_refl _) _).alloc (by simp) _).alloc (by simp;omega) _
 have HB3:=hid B3
 have HOK:=hid hok
 have HC:=hid hc
 have HO:=hid ho
 have hn0:=hok.now0
 have hn1:=hok.now1
 have hon:(B.on:Int)≤100:=by have:=hok.on;omega
 clear hok hc ho B3
 have HT:=hid ht
 have hop1:(v.op==1)=false:=by simpa using hop
 have hs1:(v.seen != 0)=true:=by simpa using hs
 have hv1:(v.seen != o.ver)=true:=by simpa using hv
 clear ht hop hs hv
 go_enter Tryz.func75,Tryz.ntmps75
 go_wp2_with fail
 refine (specFind_any B.now B.floor B.on B.os a1 a2 a3 c1 B.hn c2 B.tn c3 v.kind v.name _ 0 w.1.size (by simp;omega) (by omega) HOK.out.fit.os (HC.out.below (HB3.out _ _ _) (Nat.le_refl _))).mono ?_
 rintro e w1 ⟨A,C,rfl,hcap,hst,hb1⟩
 rw [HO.out] at hcap hst
 rw [HO.out,HT.out]
 have z1:w.1.size+1+1<w1.1.size:=by have:=hb1.size;simp at this;omega
 have zA:w.1.size<w1.1.size:=by omega
 have zB:w.1.size+1<w1.1.size:=by omega
 obtain ⟨X0,X1,X2,Y1,Y2⟩:=three_cell hb1
 have b0:=X0 0
 have b1:=X0 1
 have b2:=X0 2
 have b3:=X0 3
 have b4:=X0 4
 have p0:=X1 0
 have p1:=X1 1
 have p2:=X1 2
 have p3:=X1 3
 have p4:=X1 4
 have p5:=X1 5
 have r0:=X2 0
 have r1:=X2 1
 have r2:=X2 2
 have r3:=X2 3
 have r4:=X2 4
 have r5:=X2 5
 have r6:=X2 6
 have r7:=X2 7
 have r8:=X2 8
 simp only [List.getElem?_toArray,List.getElem?_cons_succ,List.getElem?_cons_zero] at b0 b1 b2 b3 b4 p0 p1 p2 p3 p4 p5 r0 r1 r2 r3 r4 r5 r6 r7 r8
 have HB:=hid ((HB3.out _ _ _).trans (hb1.mono (by simp;omega)))
 have HST:=hid hst
 clear X0 X1 X2 hb1 hst
 go_wp2
 refine bodyPost_ret (v:=.tuple #[.agg #[.int .i64 0,.bool false,.string ⟨#[]⟩,.string ⟨#[]⟩,.int .i64 0,.int .i64 0,.string ⟨#[]⟩,.bool false,.slice none 0 0],.int .i64 4]) (by simp [results,Tryz.results75,go_sem,r0,r1,r2,r3,r4,r5,r6,r7,r8,z1]) rfl ⟨rfl,by repeat (first|with_reducible exact HB.out|with_reducible refine Below.setCell ?_ (by first|omega|(simp;omega)) _|with_reducible refine Below.alloc ?_ (by first|omega|(simp;omega)) _|with_reducible refine Below.drew ?_)⟩
theorem chg5 (B:Bk) (v:Wr) (a1 a2 a3:Option Addr) (c1 c2 c3:Nat) (o:Ob) (w:World) (hok:WOk B v) (hc:ObjsIn w 0 w.1.size a1 B.on B.os) (ho:fndOb B.os v.kind v.name B.on=o) (_hol:(o.hn:Int)≤5) (ht:fndIs B.os v.kind v.name B.on=true) (hop:¬v.op=1) (hop5:¬v.op=5) (hsv:v.seen=0∨(¬v.seen=0∧v.seen=o.ver)) (he:o.ending=true) :
  Calls Tryz.prog 75 #[.agg #[.int .i64 B.now,.int .i64 B.floor,.slice a1 B.on c1,.slice a2 B.hn c2,.slice a3 B.tn c3],.agg #[.int .i64 v.op,.string v.kind,.string v.name,.int .i64 v.seen,.string v.text,.string v.hold]] w fun e w'=>e=.returned (.tuple #[.agg #[.int .i64 0,.bool false,.string ⟨#[]⟩,.string ⟨#[]⟩,.int .i64 0,.int .i64 0,.string ⟨#[]⟩,.bool false,.slice none 0 0],.int .i64 5])∧Below w.1.size w w':=by
 have B3:∀ o1 o2 o3,Below w.1.size w (((w.alloc o1).alloc o2).alloc o3):=fun o1 o2 o3=>(((Below.refl _ _).alloc (Nat.le_refl _) _).alloc (by simp) _).alloc (by simp;omega) _
 have HB3:=hid B3
 have HOK:=hid hok
 have HC:=hid hc
 have HO:=hid ho
 have hn0:=hok.now0
 have hn1:=hok.now1
 have hon:(B.on:Int)≤100:=by have:=hok.on;omega
 clear hok hc ho B3
 have HT:=hid ht
 have HE:=hid he
 have hop1:(v.op==1)=false:=by simpa using hop
 have hop2:(v.op != 5)=true:=by simpa using hop5
 clear ht hop hop5 he
 have HSV:=hid hsv
 clear hsv
 go_enter Tryz.func75,Tryz.ntmps75
 go_wp2_with fail
 refine (specFind_any B.now B.floor B.on B.os a1 a2 a3 c1 B.hn c2 B.tn c3 v.kind v.name _ 0 w.1.size (by simp;omega) (by omega) HOK.out.fit.os (HC.out.below (HB3.out _ _ _) (Nat.le_refl _))).mono ?_
 rintro e w1 ⟨A,C,rfl,hcap,hst,hb1⟩
 rw [HO.out] at hcap hst
 rw [HO.out,HT.out]
 have z1:w.1.size+1+1<w1.1.size:=by have:=hb1.size;simp at this;omega
 have zA:w.1.size<w1.1.size:=by omega
 have zB:w.1.size+1<w1.1.size:=by omega
 obtain ⟨X0,X1,X2,Y1,Y2⟩:=three_cell hb1
 have b0:=X0 0
 have b1:=X0 1
 have b2:=X0 2
 have b3:=X0 3
 have b4:=X0 4
 have p0:=X1 0
 have p1:=X1 1
 have p2:=X1 2
 have p3:=X1 3
 have p4:=X1 4
 have p5:=X1 5
 have r0:=X2 0
 have r1:=X2 1
 have r2:=X2 2
 have r3:=X2 3
 have r4:=X2 4
 have r5:=X2 5
 have r6:=X2 6
 have r7:=X2 7
 have r8:=X2 8
 simp only [List.getElem?_toArray,List.getElem?_cons_succ,List.getElem?_cons_zero] at b0 b1 b2 b3 b4 p0 p1 p2 p3 p4 p5 r0 r1 r2 r3 r4 r5 r6 r7 r8
 have HB:=hid ((HB3.out _ _ _).trans (hb1.mono (by simp;omega)))
 have HST:=hid hst
 clear X0 X1 X2 hb1 hst
 rw [HE.out]
 rcases HSV.out with hs|⟨hs0,hs⟩
 ·rw [hs] at p3
  clear hs
  go_wp2
  refine bodyPost_ret (v:=.tuple #[.agg #[.int .i64 0,.bool false,.string ⟨#[]⟩,.string ⟨#[]⟩,.int .i64 0,.int .i64 0,.string ⟨#[]⟩,.bool false,.slice none 0 0],.int .i64 5]) (by simp [results,Tryz.results75,go_sem,r0,r1,r2,r3,r4,r5,r6,r7,r8,z1]) rfl ⟨rfl,by repeat (first|with_reducible exact HB.out|with_reducible refine Below.setCell ?_ (by first|omega|(simp;omega)) _|with_reducible refine Below.alloc ?_ (by first|omega|(simp;omega)) _|with_reducible refine Below.drew ?_)⟩
 ·rw [hs] at p3
  have hsb:(o.ver != 0)=true:=by rw [←hs];simpa using hs0
  clear hs hs0
  go_wp2
  refine bodyPost_ret (v:=.tuple #[.agg #[.int .i64 0,.bool false,.string ⟨#[]⟩,.string ⟨#[]⟩,.int .i64 0,.int .i64 0,.string ⟨#[]⟩,.bool false,.slice none 0 0],.int .i64 5]) (by simp [results,Tryz.results75,go_sem,r0,r1,r2,r3,r4,r5,r6,r7,r8,z1]) rfl ⟨rfl,by repeat (first|with_reducible exact HB.out|with_reducible refine Below.setCell ?_ (by first|omega|(simp;omega)) _|with_reducible refine Below.alloc ?_ (by first|omega|(simp;omega)) _|with_reducible refine Below.drew ?_)⟩
theorem strs_keep {w1 w':World} {lo:Nat} {A:Option Addr} {n:Nat} {s:Nat→ByteArray} (h:StrsOwn w1 lo w1.1.size A n s) (hf:FrP (fun q=>q<lo) w1 w'):StrsIn w' 0 w'.1.size A n s:=fun i hi=>by
 obtain ⟨b,off,e1,e2,e3,e4,_⟩:=h i hi
 exact ⟨b,off,e1,Nat.zero_le _,Nat.lt_of_lt_of_le e3 hf.size,(hf.cell (p:=⟨b,off+i,none⟩) e3 (by show ¬b<lo;omega)).trans e4⟩
theorem one_strs {U:World} {a:ByteArray} {t:TypeId} {k:Nat} (h:k=U.1.size):StrsIn (U.alloc (.cells #[.string a] t)) 0 (U.alloc (.cells #[.string a] t)).1.size (some ⟨k,0,none⟩) 1 (fun _=>a):=fun i hi=>by
 subst h
 obtain rfl:i=0:=by omega
 exact ⟨U.1.size,0,rfl,Nat.zero_le _,by simp,new_cell rfl⟩
def ChgP (B:Bk) (v:Wr) (w:World) (e:Ending) (w':World):Prop:=
 Below w.1.size w w'∧((¬wCode B v=0∧e=.returned (.tuple #[.agg #[.int .i64 0,.bool false,.string ⟨#[]⟩,.string ⟨#[]⟩,.int .i64 0,.int .i64 0,.string ⟨#[]⟩,.bool false,.slice none 0 0],.int .i64 (wCode B v)])) ∨
 (wCode B v=0∧∃ A C,e=.returned (.tuple #[.agg #[.int .i64 (wCh B v).ver,.bool (wCh B v).gone,.string (wCh B v).ob.kind,.string (wCh B v).ob.name,.int .i64 (wCh B v).ob.ver,.int .i64 (wCh B v).ob.born,.string (wCh B v).ob.text,.bool (wCh B v).ob.ending,.slice A (wCh B v).ob.hn C],.int .i64 0])∧StrsIn w' 0 w'.1.size A (wCh B v).ob.hn (wCh B v).ob.hs))
theorem chg_2 (B:Bk) (v:Wr) (a1 a2 a3:Option Addr) (c1 c2 c3:Nat) (o:Ob) (w:World) (hok:WOk B v) (hc:ObjsIn w 0 w.1.size a1 B.on B.os) (ho:fndOb B.os v.kind v.name B.on=o) (_hol:(o.hn:Int)≤5) (ht:fndIs B.os v.kind v.name B.on=true) (hop:v.op=2) (hoc:oCode B v=0) (hsv:v.seen=0∨(¬v.seen=0∧v.seen=o.ver)) (he:o.ending=false) (hv:∀ (A:Option Addr) (C:Nat),(.agg #[.int .i64 (B.now+1),.bool false,.string o.kind,.string o.name,.int .i64 (B.now+1),.int .i64 o.born,.string v.text,.bool false,.slice A o.hn C]:Value)=.agg #[.int .i64 (wCh B v).ver,.bool (wCh B v).gone,.string (wCh B v).ob.kind,.string (wCh B v).ob.name,.int .i64 (wCh B v).ob.ver,.int .i64 (wCh B v).ob.born,.string (wCh B v).ob.text,.bool (wCh B v).ob.ending,.slice A (wCh B v).ob.hn C]) (hh:∀ (W:World) (A:Option Addr),StrsIn W 0 W.1.size A (wCh B v).ob.hn (wCh B v).ob.hs=StrsIn W 0 W.1.size A (o.hn) (o.hs)) :
  Calls Tryz.prog 75 #[.agg #[.int .i64 B.now,.int .i64 B.floor,.slice a1 B.on c1,.slice a2 B.hn c2,.slice a3 B.tn c3],.agg #[.int .i64 v.op,.string v.kind,.string v.name,.int .i64 v.seen,.string v.text,.string v.hold]] w fun e w'=>ChgP B v w e w':=by
 have B3:∀ o1 o2 o3,Below w.1.size w (((w.alloc o1).alloc o2).alloc o3):=fun o1 o2 o3=>(((Below.refl _ _).alloc (Nat.le_refl _) _).alloc (by simp) _).alloc (by simp;omega) _
 have HB3:=hid B3
 have HOK:=hid hok
 have HC:=hid hc
 have HO:=hid ho
 have hn0:=hok.now0
 have hn1:=hok.now1
 have hon:(B.on:Int)≤100:=by have:=hok.on;omega
 have HON:=hid hon
 clear hok hc ho B3
 have HT:=hid ht
 have HOP:=hid hop
 have HOC:=hid hoc
 have HV:=hid hv
 have HN:=hid hh
 clear ht hop hoc hv hh
 have HE:=hid he
 clear he
 have HSV:=hid hsv
 clear hsv
 go_enter Tryz.func75,Tryz.ntmps75
 go_wp2_with fail
 refine (specFind_any B.now B.floor B.on B.os a1 a2 a3 c1 B.hn c2 B.tn c3 v.kind v.name _ 0 w.1.size (by simp;omega) (by have:=HON.out;omega) HOK.out.fit.os (HC.out.below (HB3.out _ _ _) (Nat.le_refl _))).mono ?_
 rintro e w1 ⟨A,C,rfl,hcap,hst,hb1⟩
 rw [HO.out] at hcap hst
 rw [HO.out,HT.out]
 have z1:w.1.size+1+1<w1.1.size:=by have:=hb1.size;simp at this;omega
 have zA:w.1.size<w1.1.size:=by omega
 have zB:w.1.size+1<w1.1.size:=by omega
 have zA2:w.1.size<w1.1.size+1:=by omega
 have zA3:w.1.size<w1.1.size+1+1:=by omega
 have zB2:w.1.size+1<w1.1.size+1:=by omega
 have zB3:w.1.size+1<w1.1.size+1+1:=by omega
 have zC2:w.1.size+1+1<w1.1.size+1:=by omega
 have zC3:w.1.size+1+1<w1.1.size+1+1:=by omega
 obtain ⟨X0,X1,X2,Y1,Y2⟩:=three_cell hb1
 have b0:=X0 0
 have b1:=X0 1
 have b2:=X0 2
 have b3:=X0 3
 have b4:=X0 4
 have p0:=X1 0
 have p1:=X1 1
 have p2:=X1 2
 have p3:=X1 3
 have p4:=X1 4
 have p5:=X1 5
 have r0:=X2 0
 have r1:=X2 1
 have r2:=X2 2
 have r3:=X2 3
 have r4:=X2 4
 have r5:=X2 5
 have r6:=X2 6
 have r7:=X2 7
 have r8:=X2 8
 simp only [List.getElem?_toArray,List.getElem?_cons_succ,List.getElem?_cons_zero] at b0 b1 b2 b3 b4 p0 p1 p2 p3 p4 p5 r0 r1 r2 r3 r4 r5 r6 r7 r8
 have HB:=hid ((HB3.out _ _ _).trans (hb1.mono (by simp;omega)))
 have HST:=hid hst
 clear X0 X1 X2 hb1 hst
 have hw:IntKind.i64.wrap (B.now+1)=B.now+1:=IntWalk.i64_in _ ⟨by omega,by omega⟩
 simp only [World.size_alloc] at HST
 rw [HOP.out] at p0
 rw [HE.out]
 rcases HSV.out with hs|⟨hs0,hs⟩
 ·rw [hs] at p3
  clear hs
  by_cases hm:1000000≤B.now
  ·have hcc:wCode B v=8:=by unfold wCode;rw [if_pos HOC.out,if_pos hm]
   have HFIN:=hid (show ∀ w',Below w.1.size w w'→ChgP B v w (.returned (.tuple #[.agg #[.int .i64 0,.bool false,.string ⟨#[]⟩,.string ⟨#[]⟩,.int .i64 0,.int .i64 0,.string ⟨#[]⟩,.bool false,.slice none 0 0],.int .i64 8])) w' from fun w' hb=>⟨hb,Or.inl ⟨by rw [hcc];decide,by rw [hcc]⟩⟩)
   clear hcc
   go_wp2
   refine bodyPost_ret (v:=.tuple #[.agg #[.int .i64 0,.bool false,.string ⟨#[]⟩,.string ⟨#[]⟩,.int .i64 0,.int .i64 0,.string ⟨#[]⟩,.bool false,.slice none 0 0],.int .i64 8]) (by simp [results,Tryz.results75,go_sem,r0,r1,r2,r3,r4,r5,r6,r7,r8,z1,(show w.1.size+1+1<w1.1.size+1 by omega),World.cell?_alloc_lt]) rfl (HFIN.out _ (by repeat (first|with_reducible exact HB.out|with_reducible refine Below.setCell ?_ (by first|omega|(simp;omega)) _|with_reducible refine Below.alloc ?_ (by first|omega|(simp;omega)) _|with_reducible refine Below.drew ?_)))
  ·have hcc:wCode B v=0:=by unfold wCode;rw [if_pos HOC.out,if_neg hm]
   have HCC:=hid hcc
   have hm2:B.now<1000000:=by omega
   clear hcc hm
   go_wp2
   refine bodyPost_ret (v:=.tuple #[.agg #[.int .i64 (B.now+1),.bool false,.string o.kind,.string o.name,.int .i64 (B.now+1),.int .i64 o.born,.string v.text,.bool false,.slice A o.hn C],.int .i64 0]) (by simp [results,Tryz.results75,go_sem,r0,r1,r2,r3,r4,r5,r6,r7,r8,z1,(show w.1.size+1+1<w1.1.size+1 by omega),World.cell?_alloc_lt]) rfl ⟨by repeat (first|with_reducible exact HB.out|with_reducible refine Below.setCell ?_ (by first|omega|(simp;omega)) _|with_reducible refine Below.alloc ?_ (by first|omega|(simp;omega)) _|with_reducible refine Below.drew ?_),Or.inr ⟨HCC.out,A,C,?_,?_⟩⟩
   ·rw [HV.out]
   ·rw [HN.out]
    exact strs_keep HST.out (by repeat (first|with_reducible exact FrP.refl _ _|with_reducible refine FrP.setNew ?_ (by (show _≤_∨_<_);simp only [];omega) _|with_reducible refine FrP.trans ?_ (FrP.of_below (below_alloc _ _))))
 ·rw [hs] at p3
  have hsb:(o.ver != 0)=true:=by rw [←hs];simpa using hs0
  clear hs hs0
  by_cases hm:1000000≤B.now
  ·have hcc:wCode B v=8:=by unfold wCode;rw [if_pos HOC.out,if_pos hm]
   have HFIN:=hid (show ∀ w',Below w.1.size w w'→ChgP B v w (.returned (.tuple #[.agg #[.int .i64 0,.bool false,.string ⟨#[]⟩,.string ⟨#[]⟩,.int .i64 0,.int .i64 0,.string ⟨#[]⟩,.bool false,.slice none 0 0],.int .i64 8])) w' from fun w' hb=>⟨hb,Or.inl ⟨by rw [hcc];decide,by rw [hcc]⟩⟩)
   clear hcc
   go_wp2
   refine bodyPost_ret (v:=.tuple #[.agg #[.int .i64 0,.bool false,.string ⟨#[]⟩,.string ⟨#[]⟩,.int .i64 0,.int .i64 0,.string ⟨#[]⟩,.bool false,.slice none 0 0],.int .i64 8]) (by simp [results,Tryz.results75,go_sem,r0,r1,r2,r3,r4,r5,r6,r7,r8,z1,(show w.1.size+1+1<w1.1.size+1 by omega),World.cell?_alloc_lt]) rfl (HFIN.out _ (by repeat (first|with_reducible exact HB.out|with_reducible refine Below.setCell ?_ (by first|omega|(simp;omega)) _|with_reducible refine Below.alloc ?_ (by first|omega|(simp;omega)) _|with_reducible refine Below.drew ?_)))
  ·have hcc:wCode B v=0:=by unfold wCode;rw [if_pos HOC.out,if_neg hm]
   have HCC:=hid hcc
   have hm2:B.now<1000000:=by omega
   clear hcc hm
   go_wp2
   refine bodyPost_ret (v:=.tuple #[.agg #[.int .i64 (B.now+1),.bool false,.string o.kind,.string o.name,.int .i64 (B.now+1),.int .i64 o.born,.string v.text,.bool false,.slice A o.hn C],.int .i64 0]) (by simp [results,Tryz.results75,go_sem,r0,r1,r2,r3,r4,r5,r6,r7,r8,z1,(show w.1.size+1+1<w1.1.size+1 by omega),World.cell?_alloc_lt]) rfl ⟨by repeat (first|with_reducible exact HB.out|with_reducible refine Below.setCell ?_ (by first|omega|(simp;omega)) _|with_reducible refine Below.alloc ?_ (by first|omega|(simp;omega)) _|with_reducible refine Below.drew ?_),Or.inr ⟨HCC.out,A,C,?_,?_⟩⟩
   ·rw [HV.out]
   ·rw [HN.out]
    exact strs_keep HST.out (by repeat (first|with_reducible exact FrP.refl _ _|with_reducible refine FrP.setNew ?_ (by (show _≤_∨_<_);simp only [];omega) _|with_reducible refine FrP.trans ?_ (FrP.of_below (below_alloc _ _))))
theorem chg_3 (B:Bk) (v:Wr) (a1 a2 a3:Option Addr) (c1 c2 c3:Nat) (o:Ob) (w:World) (hok:WOk B v) (hc:ObjsIn w 0 w.1.size a1 B.on B.os) (ho:fndOb B.os v.kind v.name B.on=o) (_hol:(o.hn:Int)≤5) (ht:fndIs B.os v.kind v.name B.on=true) (hop:v.op=3) (hoc:oCode B v=0) (hsv:v.seen=0∨(¬v.seen=0∧v.seen=o.ver)) (he:o.ending=false) (hv:∀ (A:Option Addr) (C:Nat),(.agg #[.int .i64 (B.now+1),.bool ((o.hn:Int)==0),.string o.kind,.string o.name,.int .i64 (B.now+1),.int .i64 o.born,.string o.text,.bool true,.slice A o.hn C]:Value)=.agg #[.int .i64 (wCh B v).ver,.bool (wCh B v).gone,.string (wCh B v).ob.kind,.string (wCh B v).ob.name,.int .i64 (wCh B v).ob.ver,.int .i64 (wCh B v).ob.born,.string (wCh B v).ob.text,.bool (wCh B v).ob.ending,.slice A (wCh B v).ob.hn C]) (hh:∀ (W:World) (A:Option Addr),StrsIn W 0 W.1.size A (wCh B v).ob.hn (wCh B v).ob.hs=StrsIn W 0 W.1.size A (o.hn) (o.hs)) :
  Calls Tryz.prog 75 #[.agg #[.int .i64 B.now,.int .i64 B.floor,.slice a1 B.on c1,.slice a2 B.hn c2,.slice a3 B.tn c3],.agg #[.int .i64 v.op,.string v.kind,.string v.name,.int .i64 v.seen,.string v.text,.string v.hold]] w fun e w'=>ChgP B v w e w':=by
 have B3:∀ o1 o2 o3,Below w.1.size w (((w.alloc o1).alloc o2).alloc o3):=fun o1 o2 o3=>(((Below.refl _ _).alloc (Nat.le_refl _) _).alloc (by simp) _).alloc (by simp;omega) _
 have HB3:=hid B3
 have HOK:=hid hok
 have HC:=hid hc
 have HO:=hid ho
 have hn0:=hok.now0
 have hn1:=hok.now1
 have hon:(B.on:Int)≤100:=by have:=hok.on;omega
 have HON:=hid hon
 clear hok hc ho B3
 have HT:=hid ht
 have HOP:=hid hop
 have HOC:=hid hoc
 have HV:=hid hv
 have HN:=hid hh
 clear ht hop hoc hv hh
 have HE:=hid he
 clear he
 have HSV:=hid hsv
 clear hsv
 go_enter Tryz.func75,Tryz.ntmps75
 go_wp2_with fail
 refine (specFind_any B.now B.floor B.on B.os a1 a2 a3 c1 B.hn c2 B.tn c3 v.kind v.name _ 0 w.1.size (by simp;omega) (by have:=HON.out;omega) HOK.out.fit.os (HC.out.below (HB3.out _ _ _) (Nat.le_refl _))).mono ?_
 rintro e w1 ⟨A,C,rfl,hcap,hst,hb1⟩
 rw [HO.out] at hcap hst
 rw [HO.out,HT.out]
 have z1:w.1.size+1+1<w1.1.size:=by have:=hb1.size;simp at this;omega
 have zA:w.1.size<w1.1.size:=by omega
 have zB:w.1.size+1<w1.1.size:=by omega
 have zA2:w.1.size<w1.1.size+1:=by omega
 have zA3:w.1.size<w1.1.size+1+1:=by omega
 have zB2:w.1.size+1<w1.1.size+1:=by omega
 have zB3:w.1.size+1<w1.1.size+1+1:=by omega
 have zC2:w.1.size+1+1<w1.1.size+1:=by omega
 have zC3:w.1.size+1+1<w1.1.size+1+1:=by omega
 obtain ⟨X0,X1,X2,Y1,Y2⟩:=three_cell hb1
 have b0:=X0 0
 have b1:=X0 1
 have b2:=X0 2
 have b3:=X0 3
 have b4:=X0 4
 have p0:=X1 0
 have p1:=X1 1
 have p2:=X1 2
 have p3:=X1 3
 have p4:=X1 4
 have p5:=X1 5
 have r0:=X2 0
 have r1:=X2 1
 have r2:=X2 2
 have r3:=X2 3
 have r4:=X2 4
 have r5:=X2 5
 have r6:=X2 6
 have r7:=X2 7
 have r8:=X2 8
 simp only [List.getElem?_toArray,List.getElem?_cons_succ,List.getElem?_cons_zero] at b0 b1 b2 b3 b4 p0 p1 p2 p3 p4 p5 r0 r1 r2 r3 r4 r5 r6 r7 r8
 have HB:=hid ((HB3.out _ _ _).trans (hb1.mono (by simp;omega)))
 have HST:=hid hst
 clear X0 X1 X2 hb1 hst
 have hw:IntKind.i64.wrap (B.now+1)=B.now+1:=IntWalk.i64_in _ ⟨by omega,by omega⟩
 simp only [World.size_alloc] at HST
 rw [HOP.out] at p0
 rw [HE.out]
 rcases HSV.out with hs|⟨hs0,hs⟩
 ·rw [hs] at p3
  clear hs
  by_cases hm:1000000≤B.now
  ·have hcc:wCode B v=8:=by unfold wCode;rw [if_pos HOC.out,if_pos hm]
   have HFIN:=hid (show ∀ w',Below w.1.size w w'→ChgP B v w (.returned (.tuple #[.agg #[.int .i64 0,.bool false,.string ⟨#[]⟩,.string ⟨#[]⟩,.int .i64 0,.int .i64 0,.string ⟨#[]⟩,.bool false,.slice none 0 0],.int .i64 8])) w' from fun w' hb=>⟨hb,Or.inl ⟨by rw [hcc];decide,by rw [hcc]⟩⟩)
   clear hcc
   go_wp2
   refine bodyPost_ret (v:=.tuple #[.agg #[.int .i64 0,.bool false,.string ⟨#[]⟩,.string ⟨#[]⟩,.int .i64 0,.int .i64 0,.string ⟨#[]⟩,.bool false,.slice none 0 0],.int .i64 8]) (by simp [results,Tryz.results75,go_sem,r0,r1,r2,r3,r4,r5,r6,r7,r8,z1,(show w.1.size+1+1<w1.1.size+1 by omega),World.cell?_alloc_lt]) rfl (HFIN.out _ (by repeat (first|with_reducible exact HB.out|with_reducible refine Below.setCell ?_ (by first|omega|(simp;omega)) _|with_reducible refine Below.alloc ?_ (by first|omega|(simp;omega)) _|with_reducible refine Below.drew ?_)))
  ·have hcc:wCode B v=0:=by unfold wCode;rw [if_pos HOC.out,if_neg hm]
   have HCC:=hid hcc
   have hm2:B.now<1000000:=by omega
   clear hcc hm
   go_wp2
   refine bodyPost_ret (v:=.tuple #[.agg #[.int .i64 (B.now+1),.bool ((o.hn:Int)==0),.string o.kind,.string o.name,.int .i64 (B.now+1),.int .i64 o.born,.string o.text,.bool true,.slice A o.hn C],.int .i64 0]) (by simp [results,Tryz.results75,go_sem,r0,r1,r2,r3,r4,r5,r6,r7,r8,z1,(show w.1.size+1+1<w1.1.size+1 by omega),World.cell?_alloc_lt]) rfl ⟨by repeat (first|with_reducible exact HB.out|with_reducible refine Below.setCell ?_ (by first|omega|(simp;omega)) _|with_reducible refine Below.alloc ?_ (by first|omega|(simp;omega)) _|with_reducible refine Below.drew ?_),Or.inr ⟨HCC.out,A,C,?_,?_⟩⟩
   ·rw [HV.out]
   ·rw [HN.out]
    exact strs_keep HST.out (by repeat (first|with_reducible exact FrP.refl _ _|with_reducible refine FrP.setNew ?_ (by (show _≤_∨_<_);simp only [];omega) _|with_reducible refine FrP.trans ?_ (FrP.of_below (below_alloc _ _))))
 ·rw [hs] at p3
  have hsb:(o.ver != 0)=true:=by rw [←hs];simpa using hs0
  clear hs hs0
  by_cases hm:1000000≤B.now
  ·have hcc:wCode B v=8:=by unfold wCode;rw [if_pos HOC.out,if_pos hm]
   have HFIN:=hid (show ∀ w',Below w.1.size w w'→ChgP B v w (.returned (.tuple #[.agg #[.int .i64 0,.bool false,.string ⟨#[]⟩,.string ⟨#[]⟩,.int .i64 0,.int .i64 0,.string ⟨#[]⟩,.bool false,.slice none 0 0],.int .i64 8])) w' from fun w' hb=>⟨hb,Or.inl ⟨by rw [hcc];decide,by rw [hcc]⟩⟩)
   clear hcc
   go_wp2
   refine bodyPost_ret (v:=.tuple #[.agg #[.int .i64 0,.bool false,.string ⟨#[]⟩,.string ⟨#[]⟩,.int .i64 0,.int .i64 0,.string ⟨#[]⟩,.bool false,.slice none 0 0],.int .i64 8]) (by simp [results,Tryz.results75,go_sem,r0,r1,r2,r3,r4,r5,r6,r7,r8,z1,(show w.1.size+1+1<w1.1.size+1 by omega),World.cell?_alloc_lt]) rfl (HFIN.out _ (by repeat (first|with_reducible exact HB.out|with_reducible refine Below.setCell ?_ (by first|omega|(simp;omega)) _|with_reducible refine Below.alloc ?_ (by first|omega|(simp;omega)) _|with_reducible refine Below.drew ?_)))
  ·have hcc:wCode B v=0:=by unfold wCode;rw [if_pos HOC.out,if_neg hm]
   have HCC:=hid hcc
   have hm2:B.now<1000000:=by omega
   clear hcc hm
   go_wp2
   refine bodyPost_ret (v:=.tuple #[.agg #[.int .i64 (B.now+1),.bool ((o.hn:Int)==0),.string o.kind,.string o.name,.int .i64 (B.now+1),.int .i64 o.born,.string o.text,.bool true,.slice A o.hn C],.int .i64 0]) (by simp [results,Tryz.results75,go_sem,r0,r1,r2,r3,r4,r5,r6,r7,r8,z1,(show w.1.size+1+1<w1.1.size+1 by omega),World.cell?_alloc_lt]) rfl ⟨by repeat (first|with_reducible exact HB.out|with_reducible refine Below.setCell ?_ (by first|omega|(simp;omega)) _|with_reducible refine Below.alloc ?_ (by first|omega|(simp;omega)) _|with_reducible refine Below.drew ?_),Or.inr ⟨HCC.out,A,C,?_,?_⟩⟩
   ·rw [HV.out]
   ·rw [HN.out]
    exact strs_keep HST.out (by repeat (first|with_reducible exact FrP.refl _ _|with_reducible refine FrP.setNew ?_ (by (show _≤_∨_<_);simp only [];omega) _|with_reducible refine FrP.trans ?_ (FrP.of_below (below_alloc _ _))))
theorem chg_1e (B:Bk) (v:Wr) (a1 a2 a3:Option Addr) (c1 c2 c3:Nat) (o:Ob) (w:World) (hok:WOk B v) (hc:ObjsIn w 0 w.1.size a1 B.on B.os) (ho:fndOb B.os v.kind v.name B.on=o) (_hol:(o.hn:Int)≤5) (ht:fndIs B.os v.kind v.name B.on=false) (hop:v.op=1) (hoc:oCode B v=0) (hs:v.seen=0) (he:o.ending=false) (hh0:v.hold=⟨#[]⟩) (h100:¬100≤B.on) (hv:(.agg #[.int .i64 (B.now+1),.bool false,.string v.kind,.string v.name,.int .i64 (B.now+1),.int .i64 (B.now+1),.string v.text,.bool false,.slice none 0 0]:Value)=.agg #[.int .i64 (wCh B v).ver,.bool (wCh B v).gone,.string (wCh B v).ob.kind,.string (wCh B v).ob.name,.int .i64 (wCh B v).ob.ver,.int .i64 (wCh B v).ob.born,.string (wCh B v).ob.text,.bool (wCh B v).ob.ending,.slice none (wCh B v).ob.hn 0]) (hh:∀ (W:World) (A:Option Addr),StrsIn W 0 W.1.size A (wCh B v).ob.hn (wCh B v).ob.hs=StrsIn W 0 W.1.size A (0) (fun _=>v.hold)) :
  Calls Tryz.prog 75 #[.agg #[.int .i64 B.now,.int .i64 B.floor,.slice a1 B.on c1,.slice a2 B.hn c2,.slice a3 B.tn c3],.agg #[.int .i64 v.op,.string v.kind,.string v.name,.int .i64 v.seen,.string v.text,.string v.hold]] w fun e w'=>ChgP B v w e w':=by
 have B3:∀ o1 o2 o3,Below w.1.size w (((w.alloc o1).alloc o2).alloc o3):=fun o1 o2 o3=>(((Below.refl _ _).alloc (Nat.le_refl _) _).alloc (by simp) _).alloc (by simp;omega) _
 have HB3:=hid B3
 have HOK:=hid hok
 have HC:=hid hc
 have HO:=hid ho
 have hn0:=hok.now0
 have hn1:=hok.now1
 have hon:(B.on:Int)≤100:=by have:=hok.on;omega
 have HON:=hid hon
 clear hok hc ho B3
 have HT:=hid ht
 have HOP:=hid hop
 have HOC:=hid hoc
 have HV:=hid hv
 have HN:=hid hh
 clear ht hop hoc hv hh
 have HE:=hid he
 have HS:=hid hs
 have HH:=hid hh0
 have h100i:(B.on:Int)<100:=by omega
 clear he hs hh0 h100 hon
 go_enter Tryz.func75,Tryz.ntmps75
 go_wp2_with fail
 refine (specFind_any B.now B.floor B.on B.os a1 a2 a3 c1 B.hn c2 B.tn c3 v.kind v.name _ 0 w.1.size (by simp;omega) (by have:=HON.out;omega) HOK.out.fit.os (HC.out.below (HB3.out _ _ _) (Nat.le_refl _))).mono ?_
 rintro e w1 ⟨A,C,rfl,hcap,hst,hb1⟩
 rw [HO.out] at hcap hst
 rw [HO.out,HT.out]
 have z1:w.1.size+1+1<w1.1.size:=by have:=hb1.size;simp at this;omega
 have zA:w.1.size<w1.1.size:=by omega
 have zB:w.1.size+1<w1.1.size:=by omega
 have zA2:w.1.size<w1.1.size+1:=by omega
 have zA3:w.1.size<w1.1.size+1+1:=by omega
 have zB2:w.1.size+1<w1.1.size+1:=by omega
 have zB3:w.1.size+1<w1.1.size+1+1:=by omega
 have zC2:w.1.size+1+1<w1.1.size+1:=by omega
 have zC3:w.1.size+1+1<w1.1.size+1+1:=by omega
 obtain ⟨X0,X1,X2,Y1,Y2⟩:=three_cell hb1
 have b0:=X0 0
 have b1:=X0 1
 have b2:=X0 2
 have b3:=X0 3
 have b4:=X0 4
 have p0:=X1 0
 have p1:=X1 1
 have p2:=X1 2
 have p3:=X1 3
 have p4:=X1 4
 have p5:=X1 5
 have r0:=X2 0
 have r1:=X2 1
 have r2:=X2 2
 have r3:=X2 3
 have r4:=X2 4
 have r5:=X2 5
 have r6:=X2 6
 have r7:=X2 7
 have r8:=X2 8
 simp only [List.getElem?_toArray,List.getElem?_cons_succ,List.getElem?_cons_zero] at b0 b1 b2 b3 b4 p0 p1 p2 p3 p4 p5 r0 r1 r2 r3 r4 r5 r6 r7 r8
 have HB:=hid ((HB3.out _ _ _).trans (hb1.mono (by simp;omega)))
 have HST:=hid hst
 clear X0 X1 X2 hb1 hst
 have hw:IntKind.i64.wrap (B.now+1)=B.now+1:=IntWalk.i64_in _ ⟨by omega,by omega⟩
 simp only [World.size_alloc] at HST
 rw [HOP.out] at p0
 rw [HE.out]
 rw [HS.out] at p3
 rw [HH.out] at p5
 by_cases hm:1000000≤B.now
 ·have hcc:wCode B v=8:=by unfold wCode;rw [if_pos HOC.out,if_pos hm]
  have HFIN:=hid (show ∀ w',Below w.1.size w w'→ChgP B v w (.returned (.tuple #[.agg #[.int .i64 0,.bool false,.string ⟨#[]⟩,.string ⟨#[]⟩,.int .i64 0,.int .i64 0,.string ⟨#[]⟩,.bool false,.slice none 0 0],.int .i64 8])) w' from fun w' hb=>⟨hb,Or.inl ⟨by rw [hcc];decide,by rw [hcc]⟩⟩)
  clear hcc
  go_wp2
  refine bodyPost_ret (v:=.tuple #[.agg #[.int .i64 0,.bool false,.string ⟨#[]⟩,.string ⟨#[]⟩,.int .i64 0,.int .i64 0,.string ⟨#[]⟩,.bool false,.slice none 0 0],.int .i64 8]) (by simp [results,Tryz.results75,go_sem,r0,r1,r2,r3,r4,r5,r6,r7,r8,z1,(show w.1.size+1+1<w1.1.size+1 by omega),World.cell?_alloc_lt]) rfl (HFIN.out _ (by repeat (first|with_reducible exact HB.out|with_reducible refine Below.setCell ?_ (by first|omega|(simp;omega)) _|with_reducible refine Below.alloc ?_ (by first|omega|(simp;omega)) _|with_reducible refine Below.drew ?_)))
 ·have hcc:wCode B v=0:=by unfold wCode;rw [if_pos HOC.out,if_neg hm]
  have HCC:=hid hcc
  have hm2:B.now<1000000:=by omega
  clear hcc hm
  go_wp2
  refine bodyPost_ret (v:=.tuple #[.agg #[.int .i64 (B.now+1),.bool false,.string v.kind,.string v.name,.int .i64 (B.now+1),.int .i64 (B.now+1),.string v.text,.bool false,.slice none 0 0],.int .i64 0]) (by simp [results,Tryz.results75,go_sem,r0,r1,r2,r3,r4,r5,r6,r7,r8,z1,(show w.1.size+1+1<w1.1.size+1 by omega),World.cell?_alloc_lt]) rfl ⟨by repeat (first|with_reducible exact HB.out|with_reducible refine Below.setCell ?_ (by first|omega|(simp;omega)) _|with_reducible refine Below.alloc ?_ (by first|omega|(simp;omega)) _|with_reducible refine Below.drew ?_),Or.inr ⟨HCC.out,none,0,?_,?_⟩⟩
  ·rw [HV.out]
  ·rw [HN.out]
   exact (fun i hi=>absurd hi (Nat.not_lt_zero _))
theorem chg_1h (B:Bk) (v:Wr) (a1 a2 a3:Option Addr) (c1 c2 c3:Nat) (o:Ob) (w:World) (hok:WOk B v) (hc:ObjsIn w 0 w.1.size a1 B.on B.os) (ho:fndOb B.os v.kind v.name B.on=o) (_hol:(o.hn:Int)≤5) (ht:fndIs B.os v.kind v.name B.on=false) (hop:v.op=1) (hoc:oCode B v=0) (hs:v.seen=0) (he:o.ending=false) (hh0:¬v.hold=⟨#[]⟩) (h100:¬100≤B.on) (hv:∀ (A:Option Addr) (C:Nat),(.agg #[.int .i64 (B.now+1),.bool false,.string v.kind,.string v.name,.int .i64 (B.now+1),.int .i64 (B.now+1),.string v.text,.bool false,.slice A 1 C]:Value)=.agg #[.int .i64 (wCh B v).ver,.bool (wCh B v).gone,.string (wCh B v).ob.kind,.string (wCh B v).ob.name,.int .i64 (wCh B v).ob.ver,.int .i64 (wCh B v).ob.born,.string (wCh B v).ob.text,.bool (wCh B v).ob.ending,.slice A (wCh B v).ob.hn C]) (hh:∀ (W:World) (A:Option Addr),StrsIn W 0 W.1.size A (wCh B v).ob.hn (wCh B v).ob.hs=StrsIn W 0 W.1.size A (1) (fun _=>v.hold)) :
  Calls Tryz.prog 75 #[.agg #[.int .i64 B.now,.int .i64 B.floor,.slice a1 B.on c1,.slice a2 B.hn c2,.slice a3 B.tn c3],.agg #[.int .i64 v.op,.string v.kind,.string v.name,.int .i64 v.seen,.string v.text,.string v.hold]] w fun e w'=>ChgP B v w e w':=by
 have B3:∀ o1 o2 o3,Below w.1.size w (((w.alloc o1).alloc o2).alloc o3):=fun o1 o2 o3=>(((Below.refl _ _).alloc (Nat.le_refl _) _).alloc (by simp) _).alloc (by simp;omega) _
 have HB3:=hid B3
 have HOK:=hid hok
 have HC:=hid hc
 have HO:=hid ho
 have hn0:=hok.now0
 have hn1:=hok.now1
 have hon:(B.on:Int)≤100:=by have:=hok.on;omega
 have HON:=hid hon
 clear hok hc ho B3
 have HT:=hid ht
 have HOP:=hid hop
 have HOC:=hid hoc
 have HV:=hid hv
 have HN:=hid hh
 clear ht hop hoc hv hh
 have HE:=hid he
 have HS:=hid hs
 have hhe:v.hold.toList.isEmpty=false:=by simpa using em_list hh0
 have h100i:(B.on:Int)<100:=by omega
 clear he hs hh0 h100 hon
 go_enter Tryz.func75,Tryz.ntmps75
 go_wp2_with fail
 refine (specFind_any B.now B.floor B.on B.os a1 a2 a3 c1 B.hn c2 B.tn c3 v.kind v.name _ 0 w.1.size (by simp;omega) (by have:=HON.out;omega) HOK.out.fit.os (HC.out.below (HB3.out _ _ _) (Nat.le_refl _))).mono ?_
 rintro e w1 ⟨A,C,rfl,hcap,hst,hb1⟩
 rw [HO.out] at hcap hst
 rw [HO.out,HT.out]
 have z1:w.1.size+1+1<w1.1.size:=by have:=hb1.size;simp at this;omega
 have zA:w.1.size<w1.1.size:=by omega
 have zB:w.1.size+1<w1.1.size:=by omega
 have zA2:w.1.size<w1.1.size+1:=by omega
 have zA3:w.1.size<w1.1.size+1+1:=by omega
 have zB2:w.1.size+1<w1.1.size+1:=by omega
 have zB3:w.1.size+1<w1.1.size+1+1:=by omega
 have zC2:w.1.size+1+1<w1.1.size+1:=by omega
 have zC3:w.1.size+1+1<w1.1.size+1+1:=by omega
 obtain ⟨X0,X1,X2,Y1,Y2⟩:=three_cell hb1
 have b0:=X0 0
 have b1:=X0 1
 have b2:=X0 2
 have b3:=X0 3
 have b4:=X0 4
 have p0:=X1 0
 have p1:=X1 1
 have p2:=X1 2
 have p3:=X1 3
 have p4:=X1 4
 have p5:=X1 5
 have r0:=X2 0
 have r1:=X2 1
 have r2:=X2 2
 have r3:=X2 3
 have r4:=X2 4
 have r5:=X2 5
 have r6:=X2 6
 have r7:=X2 7
 have r8:=X2 8
 simp only [List.getElem?_toArray,List.getElem?_cons_succ,List.getElem?_cons_zero] at b0 b1 b2 b3 b4 p0 p1 p2 p3 p4 p5 r0 r1 r2 r3 r4 r5 r6 r7 r8
 have HB:=hid ((HB3.out _ _ _).trans (hb1.mono (by simp;omega)))
 have HST:=hid hst
 clear X0 X1 X2 hb1 hst
 have hw:IntKind.i64.wrap (B.now+1)=B.now+1:=IntWalk.i64_in _ ⟨by omega,by omega⟩
 simp only [World.size_alloc] at HST
 rw [HOP.out] at p0
 rw [HE.out]
 rw [HS.out] at p3
 by_cases hm:1000000≤B.now
 ·have hcc:wCode B v=8:=by unfold wCode;rw [if_pos HOC.out,if_pos hm]
  have HFIN:=hid (show ∀ w',Below w.1.size w w'→ChgP B v w (.returned (.tuple #[.agg #[.int .i64 0,.bool false,.string ⟨#[]⟩,.string ⟨#[]⟩,.int .i64 0,.int .i64 0,.string ⟨#[]⟩,.bool false,.slice none 0 0],.int .i64 8])) w' from fun w' hb=>⟨hb,Or.inl ⟨by rw [hcc];decide,by rw [hcc]⟩⟩)
  clear hcc
  go_wp2
  refine bodyPost_ret (v:=.tuple #[.agg #[.int .i64 0,.bool false,.string ⟨#[]⟩,.string ⟨#[]⟩,.int .i64 0,.int .i64 0,.string ⟨#[]⟩,.bool false,.slice none 0 0],.int .i64 8]) (by simp [results,Tryz.results75,go_sem,r0,r1,r2,r3,r4,r5,r6,r7,r8,z1,(show w.1.size+1+1<w1.1.size+1 by omega),(show w.1.size+1+1<w1.1.size+1+1 by omega),World.cell?_alloc_lt]) rfl (HFIN.out _ (by repeat (first|with_reducible exact HB.out|with_reducible refine Below.setCell ?_ (by first|omega|(simp;omega)) _|with_reducible refine Below.alloc ?_ (by first|omega|(simp;omega)) _|with_reducible refine Below.drew ?_)))
 ·have hcc:wCode B v=0:=by unfold wCode;rw [if_pos HOC.out,if_neg hm]
  have HCC:=hid hcc
  have hm2:B.now<1000000:=by omega
  clear hcc hm
  go_wp2
  refine bodyPost_ret (v:=.tuple #[.agg #[.int .i64 (B.now+1),.bool false,.string v.kind,.string v.name,.int .i64 (B.now+1),.int .i64 (B.now+1),.string v.text,.bool false,.slice (some ⟨w1.1.size+1+1,0,none⟩) 1 1],.int .i64 0]) (by simp [results,Tryz.results75,go_sem,r0,r1,r2,r3,r4,r5,r6,r7,r8,z1,(show w.1.size+1+1<w1.1.size+1 by omega),(show w.1.size+1+1<w1.1.size+1+1 by omega),World.cell?_alloc_lt]) rfl ⟨by repeat (first|with_reducible exact HB.out|with_reducible refine Below.setCell ?_ (by first|omega|(simp;omega)) _|with_reducible refine Below.alloc ?_ (by first|omega|(simp;omega)) _|with_reducible refine Below.drew ?_),Or.inr ⟨HCC.out,(some ⟨w1.1.size+1+1,0,none⟩),1,?_,?_⟩⟩
  ·rw [HV.out]
  ·rw [HN.out]
   exact (one_strs (by simp))
theorem chg_1f (B:Bk) (v:Wr) (a1 a2 a3:Option Addr) (c1 c2 c3:Nat) (o:Ob) (w:World) (hok:WOk B v) (hc:ObjsIn w 0 w.1.size a1 B.on B.os) (ho:fndOb B.os v.kind v.name B.on=o) (_hol:(o.hn:Int)≤5) (ht:fndIs B.os v.kind v.name B.on=false) (hop:v.op=1) (hs:v.seen=0) (he:o.ending=false) (h100:100≤B.on) :
  Calls Tryz.prog 75 #[.agg #[.int .i64 B.now,.int .i64 B.floor,.slice a1 B.on c1,.slice a2 B.hn c2,.slice a3 B.tn c3],.agg #[.int .i64 v.op,.string v.kind,.string v.name,.int .i64 v.seen,.string v.text,.string v.hold]] w fun e w'=>e=.returned (.tuple #[.agg #[.int .i64 0,.bool false,.string ⟨#[]⟩,.string ⟨#[]⟩,.int .i64 0,.int .i64 0,.string ⟨#[]⟩,.bool false,.slice none 0 0],.int .i64 7])∧Below w.1.size w w':=by
 have B3:∀ o1 o2 o3,Below w.1.size w (((w.alloc o1).alloc o2).alloc o3):=fun o1 o2 o3=>(((Below.refl _ _).alloc (Nat.le_refl _) _).alloc (by simp) _).alloc (by simp;omega) _
 have HB3:=hid B3
 have HOK:=hid hok
 have HC:=hid hc
 have HO:=hid ho
 have hn0:=hok.now0
 have hn1:=hok.now1
 have hon:(B.on:Int)≤100:=by have:=hok.on;omega
 have HON:=hid hon
 clear hok hc ho B3
 have HT:=hid ht
 have HOP:=hid hop
 have HE:=hid he
 have HS:=hid hs
 have h100i:(100:Int)≤B.on:=by omega
 clear ht hop he hs h100 hon
 go_enter Tryz.func75,Tryz.ntmps75
 go_wp2_with fail
 refine (specFind_any B.now B.floor B.on B.os a1 a2 a3 c1 B.hn c2 B.tn c3 v.kind v.name _ 0 w.1.size (by simp;omega) (by have:=HON.out;omega) HOK.out.fit.os (HC.out.below (HB3.out _ _ _) (Nat.le_refl _))).mono ?_
 rintro e w1 ⟨A,C,rfl,hcap,hst,hb1⟩
 rw [HO.out] at hcap hst
 rw [HO.out,HT.out]
 have z1:w.1.size+1+1<w1.1.size:=by have:=hb1.size;simp at this;omega
 have zA:w.1.size<w1.1.size:=by omega
 have zB:w.1.size+1<w1.1.size:=by omega
 have zA2:w.1.size<w1.1.size+1:=by omega
 have zA3:w.1.size<w1.1.size+1+1:=by omega
 have zB2:w.1.size+1<w1.1.size+1:=by omega
 have zB3:w.1.size+1<w1.1.size+1+1:=by omega
 have zC2:w.1.size+1+1<w1.1.size+1:=by omega
 have zC3:w.1.size+1+1<w1.1.size+1+1:=by omega
 obtain ⟨X0,X1,X2,Y1,Y2⟩:=three_cell hb1
 have b0:=X0 0
 have b1:=X0 1
 have b2:=X0 2
 have b3:=X0 3
 have b4:=X0 4
 have p0:=X1 0
 have p1:=X1 1
 have p2:=X1 2
 have p3:=X1 3
 have p4:=X1 4
 have p5:=X1 5
 have r0:=X2 0
 have r1:=X2 1
 have r2:=X2 2
 have r3:=X2 3
 have r4:=X2 4
 have r5:=X2 5
 have r6:=X2 6
 have r7:=X2 7
 have r8:=X2 8
 simp only [List.getElem?_toArray,List.getElem?_cons_succ,List.getElem?_cons_zero] at b0 b1 b2 b3 b4 p0 p1 p2 p3 p4 p5 r0 r1 r2 r3 r4 r5 r6 r7 r8
 have HB:=hid ((HB3.out _ _ _).trans (hb1.mono (by simp;omega)))
 have HST:=hid hst
 clear X0 X1 X2 hb1 hst
 have hw:IntKind.i64.wrap (B.now+1)=B.now+1:=IntWalk.i64_in _ ⟨by omega,by omega⟩
 rw [HOP.out] at p0
 rw [HE.out]
 rw [HS.out] at p3
 by_cases hhe:v.hold.toList.isEmpty=true
 ·go_wp2
  refine bodyPost_ret (v:=.tuple #[.agg #[.int .i64 0,.bool false,.string ⟨#[]⟩,.string ⟨#[]⟩,.int .i64 0,.int .i64 0,.string ⟨#[]⟩,.bool false,.slice none 0 0],.int .i64 7]) (by simp [results,Tryz.results75,go_sem,r0,r1,r2,r3,r4,r5,r6,r7,r8,z1,(show w.1.size+1+1<w1.1.size+1 by omega),World.cell?_alloc_lt]) rfl ⟨rfl,by repeat (first|with_reducible exact HB.out|with_reducible refine Below.setCell ?_ (by first|omega|(simp;omega)) _|with_reducible refine Below.alloc ?_ (by first|omega|(simp;omega)) _|with_reducible refine Below.drew ?_)⟩
 ·have hhe':v.hold.toList.isEmpty=false:=by simpa using hhe
  clear hhe
  go_wp2
  refine bodyPost_ret (v:=.tuple #[.agg #[.int .i64 0,.bool false,.string ⟨#[]⟩,.string ⟨#[]⟩,.int .i64 0,.int .i64 0,.string ⟨#[]⟩,.bool false,.slice none 0 0],.int .i64 7]) (by simp [results,Tryz.results75,go_sem,r0,r1,r2,r3,r4,r5,r6,r7,r8,z1,(show w.1.size+1+1<w1.1.size+1 by omega),(show w.1.size+1+1<w1.1.size+1+1 by omega),World.cell?_alloc_lt]) rfl ⟨rfl,by repeat (first|with_reducible exact HB.out|with_reducible refine Below.setCell ?_ (by first|omega|(simp;omega)) _|with_reducible refine Below.alloc ?_ (by first|omega|(simp;omega)) _|with_reducible refine Below.drew ?_)⟩
theorem chg_4h (B:Bk) (v:Wr) (a1 a2 a3:Option Addr) (c1 c2 c3:Nat) (o:Ob) (w:World) (hok:WOk B v) (hc:ObjsIn w 0 w.1.size a1 B.on B.os) (ho:fndOb B.os v.kind v.name B.on=o) (hol:(o.hn:Int)≤5) (ht:fndIs B.os v.kind v.name B.on=true) (hop:v.op=4) (hsv:v.seen=0∨(¬v.seen=0∧v.seen=o.ver)) (he:o.ending=false) (hh:hasB o.hn o.hs v.hold=true) :
  Calls Tryz.prog 75 #[.agg #[.int .i64 B.now,.int .i64 B.floor,.slice a1 B.on c1,.slice a2 B.hn c2,.slice a3 B.tn c3],.agg #[.int .i64 v.op,.string v.kind,.string v.name,.int .i64 v.seen,.string v.text,.string v.hold]] w fun e w'=>e=.returned (.tuple #[.agg #[.int .i64 0,.bool false,.string ⟨#[]⟩,.string ⟨#[]⟩,.int .i64 0,.int .i64 0,.string ⟨#[]⟩,.bool false,.slice none 0 0],.int .i64 6])∧Below w.1.size w w':=by
 have B3:∀ o1 o2 o3,Below w.1.size w (((w.alloc o1).alloc o2).alloc o3):=fun o1 o2 o3=>(((Below.refl _ _).alloc (Nat.le_refl _) _).alloc (by simp) _).alloc (by simp;omega) _
 have HB3:=hid B3
 have HOK:=hid hok
 have HC:=hid hc
 have HO:=hid ho
 have hn0:=hok.now0
 have hn1:=hok.now1
 have hon:(B.on:Int)≤100:=by have:=hok.on;omega
 have HON:=hid hon
 clear hok hc ho B3
 have HT:=hid ht
 have HOP:=hid hop
 clear ht hop
 have HE:=hid he
 clear he
 have HSV:=hid hsv
 clear hsv
 have HH:=hid hh
 clear hh
 go_enter Tryz.func75,Tryz.ntmps75
 go_wp2_with fail
 refine (specFind_any B.now B.floor B.on B.os a1 a2 a3 c1 B.hn c2 B.tn c3 v.kind v.name _ 0 w.1.size (by simp;omega) (by have:=HON.out;omega) HOK.out.fit.os (HC.out.below (HB3.out _ _ _) (Nat.le_refl _))).mono ?_
 rintro e w1 ⟨A,C,rfl,hcap,hst,hb1⟩
 rw [HO.out] at hcap hst
 rw [HO.out,HT.out]
 have z1:w.1.size+1+1<w1.1.size:=by have:=hb1.size;simp at this;omega
 have zA:w.1.size<w1.1.size:=by omega
 have zB:w.1.size+1<w1.1.size:=by omega
 have zA2:w.1.size<w1.1.size+1:=by omega
 have zA3:w.1.size<w1.1.size+1+1:=by omega
 have zB2:w.1.size+1<w1.1.size+1:=by omega
 have zB3:w.1.size+1<w1.1.size+1+1:=by omega
 have zC2:w.1.size+1+1<w1.1.size+1:=by omega
 have zC3:w.1.size+1+1<w1.1.size+1+1:=by omega
 obtain ⟨X0,X1,X2,Y1,Y2⟩:=three_cell hb1
 have b0:=X0 0
 have b1:=X0 1
 have b2:=X0 2
 have b3:=X0 3
 have b4:=X0 4
 have p0:=X1 0
 have p1:=X1 1
 have p2:=X1 2
 have p3:=X1 3
 have p4:=X1 4
 have p5:=X1 5
 have r0:=X2 0
 have r1:=X2 1
 have r2:=X2 2
 have r3:=X2 3
 have r4:=X2 4
 have r5:=X2 5
 have r6:=X2 6
 have r7:=X2 7
 have r8:=X2 8
 simp only [List.getElem?_toArray,List.getElem?_cons_succ,List.getElem?_cons_zero] at b0 b1 b2 b3 b4 p0 p1 p2 p3 p4 p5 r0 r1 r2 r3 r4 r5 r6 r7 r8
 have HB:=hid ((HB3.out _ _ _).trans (hb1.mono (by simp;omega)))
 have HST:=hid hst
 clear X0 X1 X2 hb1 hst
 have hw:IntKind.i64.wrap (B.now+1)=B.now+1:=IntWalk.i64_in _ ⟨by omega,by omega⟩
 simp only [World.size_alloc] at HST
 rw [HOP.out] at p0
 rw [HE.out]
 rcases HSV.out with hs|⟨hs0,hs⟩
 ·rw [hs] at p3
  clear hs
  go_wp2_with fail
  refine (l2Has_any o.hn o.hs A C v.hold _ 0 _ (by omega) (strs_keep HST.out (by repeat (first|with_reducible exact FrP.refl _ _|with_reducible refine FrP.setNew ?_ (by (show _≤_∨_<_);simp only [World.size_setCell,World.size_alloc];omega) _|with_reducible refine FrP.trans ?_ (FrP.of_below (below_alloc _ _)))))).mono ?_
  rintro e w2 ⟨rfl,rfl⟩
  rw [HH.out]
  go_wp2
  refine bodyPost_ret (v:=.tuple #[.agg #[.int .i64 0,.bool false,.string ⟨#[]⟩,.string ⟨#[]⟩,.int .i64 0,.int .i64 0,.string ⟨#[]⟩,.bool false,.slice none 0 0],.int .i64 6]) (by simp [results,Tryz.results75,go_sem,r0,r1,r2,r3,r4,r5,r6,r7,r8,z1,(show w.1.size+1+1<w1.1.size+1 by omega),World.cell?_alloc_lt]) rfl ⟨rfl,by repeat (first|with_reducible exact HB.out|with_reducible refine Below.setCell ?_ (by first|omega|(simp;omega)) _|with_reducible refine Below.alloc ?_ (by first|omega|(simp;omega)) _|with_reducible refine Below.drew ?_)⟩
 ·rw [hs] at p3
  have hsb:(o.ver != 0)=true:=by rw [←hs];simpa using hs0
  clear hs hs0
  go_wp2_with fail
  refine (l2Has_any o.hn o.hs A C v.hold _ 0 _ (by omega) (strs_keep HST.out (by repeat (first|with_reducible exact FrP.refl _ _|with_reducible refine FrP.setNew ?_ (by (show _≤_∨_<_);simp only [World.size_setCell,World.size_alloc];omega) _|with_reducible refine FrP.trans ?_ (FrP.of_below (below_alloc _ _)))))).mono ?_
  rintro e w2 ⟨rfl,rfl⟩
  rw [HH.out]
  go_wp2
  refine bodyPost_ret (v:=.tuple #[.agg #[.int .i64 0,.bool false,.string ⟨#[]⟩,.string ⟨#[]⟩,.int .i64 0,.int .i64 0,.string ⟨#[]⟩,.bool false,.slice none 0 0],.int .i64 6]) (by simp [results,Tryz.results75,go_sem,r0,r1,r2,r3,r4,r5,r6,r7,r8,z1,(show w.1.size+1+1<w1.1.size+1 by omega),World.cell?_alloc_lt]) rfl ⟨rfl,by repeat (first|with_reducible exact HB.out|with_reducible refine Below.setCell ?_ (by first|omega|(simp;omega)) _|with_reducible refine Below.alloc ?_ (by first|omega|(simp;omega)) _|with_reducible refine Below.drew ?_)⟩
theorem chg_4f (B:Bk) (v:Wr) (a1 a2 a3:Option Addr) (c1 c2 c3:Nat) (o:Ob) (w:World) (hok:WOk B v) (hc:ObjsIn w 0 w.1.size a1 B.on B.os) (ho:fndOb B.os v.kind v.name B.on=o) (hol:(o.hn:Int)≤5) (ht:fndIs B.os v.kind v.name B.on=true) (hop:v.op=4) (hsv:v.seen=0∨(¬v.seen=0∧v.seen=o.ver)) (he:o.ending=false) (hh:hasB o.hn o.hs v.hold=false) (h5:(5:Int)≤o.hn) :
  Calls Tryz.prog 75 #[.agg #[.int .i64 B.now,.int .i64 B.floor,.slice a1 B.on c1,.slice a2 B.hn c2,.slice a3 B.tn c3],.agg #[.int .i64 v.op,.string v.kind,.string v.name,.int .i64 v.seen,.string v.text,.string v.hold]] w fun e w'=>e=.returned (.tuple #[.agg #[.int .i64 0,.bool false,.string ⟨#[]⟩,.string ⟨#[]⟩,.int .i64 0,.int .i64 0,.string ⟨#[]⟩,.bool false,.slice none 0 0],.int .i64 7])∧Below w.1.size w w':=by
 have B3:∀ o1 o2 o3,Below w.1.size w (((w.alloc o1).alloc o2).alloc o3):=fun o1 o2 o3=>(((Below.refl _ _).alloc (Nat.le_refl _) _).alloc (by simp) _).alloc (by simp;omega) _
 have HB3:=hid B3
 have HOK:=hid hok
 have HC:=hid hc
 have HO:=hid ho
 have hn0:=hok.now0
 have hn1:=hok.now1
 have hon:(B.on:Int)≤100:=by have:=hok.on;omega
 have HON:=hid hon
 clear hok hc ho B3
 have HT:=hid ht
 have HOP:=hid hop
 clear ht hop
 have HE:=hid he
 clear he
 have HSV:=hid hsv
 clear hsv
 have HH:=hid hh
 clear hh
 go_enter Tryz.func75,Tryz.ntmps75
 go_wp2_with fail
 refine (specFind_any B.now B.floor B.on B.os a1 a2 a3 c1 B.hn c2 B.tn c3 v.kind v.name _ 0 w.1.size (by simp;omega) (by have:=HON.out;omega) HOK.out.fit.os (HC.out.below (HB3.out _ _ _) (Nat.le_refl _))).mono ?_
 rintro e w1 ⟨A,C,rfl,hcap,hst,hb1⟩
 rw [HO.out] at hcap hst
 rw [HO.out,HT.out]
 have z1:w.1.size+1+1<w1.1.size:=by have:=hb1.size;simp at this;omega
 have zA:w.1.size<w1.1.size:=by omega
 have zB:w.1.size+1<w1.1.size:=by omega
 have zA2:w.1.size<w1.1.size+1:=by omega
 have zA3:w.1.size<w1.1.size+1+1:=by omega
 have zB2:w.1.size+1<w1.1.size+1:=by omega
 have zB3:w.1.size+1<w1.1.size+1+1:=by omega
 have zC2:w.1.size+1+1<w1.1.size+1:=by omega
 have zC3:w.1.size+1+1<w1.1.size+1+1:=by omega
 obtain ⟨X0,X1,X2,Y1,Y2⟩:=three_cell hb1
 have b0:=X0 0
 have b1:=X0 1
 have b2:=X0 2
 have b3:=X0 3
 have b4:=X0 4
 have p0:=X1 0
 have p1:=X1 1
 have p2:=X1 2
 have p3:=X1 3
 have p4:=X1 4
 have p5:=X1 5
 have r0:=X2 0
 have r1:=X2 1
 have r2:=X2 2
 have r3:=X2 3
 have r4:=X2 4
 have r5:=X2 5
 have r6:=X2 6
 have r7:=X2 7
 have r8:=X2 8
 simp only [List.getElem?_toArray,List.getElem?_cons_succ,List.getElem?_cons_zero] at b0 b1 b2 b3 b4 p0 p1 p2 p3 p4 p5 r0 r1 r2 r3 r4 r5 r6 r7 r8
 have HB:=hid ((HB3.out _ _ _).trans (hb1.mono (by simp;omega)))
 have HST:=hid hst
 clear X0 X1 X2 hb1 hst
 have hw:IntKind.i64.wrap (B.now+1)=B.now+1:=IntWalk.i64_in _ ⟨by omega,by omega⟩
 simp only [World.size_alloc] at HST
 rw [HOP.out] at p0
 rw [HE.out]
 rcases HSV.out with hs|⟨hs0,hs⟩
 ·rw [hs] at p3
  clear hs
  go_wp2_with fail
  refine (l2Has_any o.hn o.hs A C v.hold _ 0 _ (by omega) (strs_keep HST.out (by repeat (first|with_reducible exact FrP.refl _ _|with_reducible refine FrP.setNew ?_ (by (show _≤_∨_<_);simp only [World.size_setCell,World.size_alloc];omega) _|with_reducible refine FrP.trans ?_ (FrP.of_below (below_alloc _ _)))))).mono ?_
  rintro e w2 ⟨rfl,rfl⟩
  rw [HH.out]
  go_wp2
  refine bodyPost_ret (v:=.tuple #[.agg #[.int .i64 0,.bool false,.string ⟨#[]⟩,.string ⟨#[]⟩,.int .i64 0,.int .i64 0,.string ⟨#[]⟩,.bool false,.slice none 0 0],.int .i64 7]) (by simp [results,Tryz.results75,go_sem,r0,r1,r2,r3,r4,r5,r6,r7,r8,z1,(show w.1.size+1+1<w1.1.size+1 by omega),World.cell?_alloc_lt]) rfl ⟨rfl,by repeat (first|with_reducible exact HB.out|with_reducible refine Below.setCell ?_ (by first|omega|(simp;omega)) _|with_reducible refine Below.alloc ?_ (by first|omega|(simp;omega)) _|with_reducible refine Below.drew ?_)⟩
 ·rw [hs] at p3
  have hsb:(o.ver != 0)=true:=by rw [←hs];simpa using hs0
  clear hs hs0
  go_wp2_with fail
  refine (l2Has_any o.hn o.hs A C v.hold _ 0 _ (by omega) (strs_keep HST.out (by repeat (first|with_reducible exact FrP.refl _ _|with_reducible refine FrP.setNew ?_ (by (show _≤_∨_<_);simp only [World.size_setCell,World.size_alloc];omega) _|with_reducible refine FrP.trans ?_ (FrP.of_below (below_alloc _ _)))))).mono ?_
  rintro e w2 ⟨rfl,rfl⟩
  rw [HH.out]
  go_wp2
  refine bodyPost_ret (v:=.tuple #[.agg #[.int .i64 0,.bool false,.string ⟨#[]⟩,.string ⟨#[]⟩,.int .i64 0,.int .i64 0,.string ⟨#[]⟩,.bool false,.slice none 0 0],.int .i64 7]) (by simp [results,Tryz.results75,go_sem,r0,r1,r2,r3,r4,r5,r6,r7,r8,z1,(show w.1.size+1+1<w1.1.size+1 by omega),World.cell?_alloc_lt]) rfl ⟨rfl,by repeat (first|with_reducible exact HB.out|with_reducible refine Below.setCell ?_ (by first|omega|(simp;omega)) _|with_reducible refine Below.alloc ?_ (by first|omega|(simp;omega)) _|with_reducible refine Below.drew ?_)⟩
theorem chg_5n (B:Bk) (v:Wr) (a1 a2 a3:Option Addr) (c1 c2 c3:Nat) (o:Ob) (w:World) (hok:WOk B v) (hc:ObjsIn w 0 w.1.size a1 B.on B.os) (ho:fndOb B.os v.kind v.name B.on=o) (hol:(o.hn:Int)≤5) (ht:fndIs B.os v.kind v.name B.on=true) (hop:v.op=5) (hsv:v.seen=0∨(¬v.seen=0∧v.seen=o.ver)) (hh:hasB o.hn o.hs v.hold=false) :
  Calls Tryz.prog 75 #[.agg #[.int .i64 B.now,.int .i64 B.floor,.slice a1 B.on c1,.slice a2 B.hn c2,.slice a3 B.tn c3],.agg #[.int .i64 v.op,.string v.kind,.string v.name,.int .i64 v.seen,.string v.text,.string v.hold]] w fun e w'=>e=.returned (.tuple #[.agg #[.int .i64 0,.bool false,.string ⟨#[]⟩,.string ⟨#[]⟩,.int .i64 0,.int .i64 0,.string ⟨#[]⟩,.bool false,.slice none 0 0],.int .i64 6])∧Below w.1.size w w':=by
 have B3:∀ o1 o2 o3,Below w.1.size w (((w.alloc o1).alloc o2).alloc o3):=fun o1 o2 o3=>(((Below.refl _ _).alloc (Nat.le_refl _) _).alloc (by simp) _).alloc (by simp;omega) _
 have HB3:=hid B3
 have HOK:=hid hok
 have HC:=hid hc
 have HO:=hid ho
 have hn0:=hok.now0
 have hn1:=hok.now1
 have hon:(B.on:Int)≤100:=by have:=hok.on;omega
 have HON:=hid hon
 clear hok hc ho B3
 have HT:=hid ht
 have HOP:=hid hop
 clear ht hop
 have HSV:=hid hsv
 clear hsv
 have HH:=hid hh
 clear hh
 go_enter Tryz.func75,Tryz.ntmps75
 go_wp2_with fail
 refine (specFind_any B.now B.floor B.on B.os a1 a2 a3 c1 B.hn c2 B.tn c3 v.kind v.name _ 0 w.1.size (by simp;omega) (by have:=HON.out;omega) HOK.out.fit.os (HC.out.below (HB3.out _ _ _) (Nat.le_refl _))).mono ?_
 rintro e w1 ⟨A,C,rfl,hcap,hst,hb1⟩
 rw [HO.out] at hcap hst
 rw [HO.out,HT.out]
 have z1:w.1.size+1+1<w1.1.size:=by have:=hb1.size;simp at this;omega
 have zA:w.1.size<w1.1.size:=by omega
 have zB:w.1.size+1<w1.1.size:=by omega
 have zA2:w.1.size<w1.1.size+1:=by omega
 have zA3:w.1.size<w1.1.size+1+1:=by omega
 have zB2:w.1.size+1<w1.1.size+1:=by omega
 have zB3:w.1.size+1<w1.1.size+1+1:=by omega
 have zC2:w.1.size+1+1<w1.1.size+1:=by omega
 have zC3:w.1.size+1+1<w1.1.size+1+1:=by omega
 obtain ⟨X0,X1,X2,Y1,Y2⟩:=three_cell hb1
 have b0:=X0 0
 have b1:=X0 1
 have b2:=X0 2
 have b3:=X0 3
 have b4:=X0 4
 have p0:=X1 0
 have p1:=X1 1
 have p2:=X1 2
 have p3:=X1 3
 have p4:=X1 4
 have p5:=X1 5
 have r0:=X2 0
 have r1:=X2 1
 have r2:=X2 2
 have r3:=X2 3
 have r4:=X2 4
 have r5:=X2 5
 have r6:=X2 6
 have r7:=X2 7
 have r8:=X2 8
 simp only [List.getElem?_toArray,List.getElem?_cons_succ,List.getElem?_cons_zero] at b0 b1 b2 b3 b4 p0 p1 p2 p3 p4 p5 r0 r1 r2 r3 r4 r5 r6 r7 r8
 have HB:=hid ((HB3.out _ _ _).trans (hb1.mono (by simp;omega)))
 have HST:=hid hst
 clear X0 X1 X2 hb1 hst
 have hw:IntKind.i64.wrap (B.now+1)=B.now+1:=IntWalk.i64_in _ ⟨by omega,by omega⟩
 simp only [World.size_alloc] at HST
 rw [HOP.out] at p0
 cases hE:o.ending
 ·clear hE
  rcases HSV.out with hs|⟨hs0,hs⟩
  ·rw [hs] at p3
   clear hs
   go_wp2_with fail
   refine (l2Has_any o.hn o.hs A C v.hold _ 0 _ (by omega) (strs_keep HST.out (by repeat (first|with_reducible exact FrP.refl _ _|with_reducible refine FrP.setNew ?_ (by (show _≤_∨_<_);simp only [World.size_setCell,World.size_alloc];omega) _|with_reducible refine FrP.trans ?_ (FrP.of_below (below_alloc _ _)))))).mono ?_
   rintro e w2 ⟨rfl,rfl⟩
   rw [HH.out]
   go_wp2
   refine bodyPost_ret (v:=.tuple #[.agg #[.int .i64 0,.bool false,.string ⟨#[]⟩,.string ⟨#[]⟩,.int .i64 0,.int .i64 0,.string ⟨#[]⟩,.bool false,.slice none 0 0],.int .i64 6]) (by simp [results,Tryz.results75,go_sem,r0,r1,r2,r3,r4,r5,r6,r7,r8,z1,(show w.1.size+1+1<w1.1.size+1 by omega),World.cell?_alloc_lt]) rfl ⟨rfl,by repeat (first|with_reducible exact HB.out|with_reducible refine Below.setCell ?_ (by first|omega|(simp;omega)) _|with_reducible refine Below.alloc ?_ (by first|omega|(simp;omega)) _|with_reducible refine Below.drew ?_)⟩
  ·rw [hs] at p3
   have hsb:(o.ver != 0)=true:=by rw [←hs];simpa using hs0
   clear hs hs0
   go_wp2_with fail
   refine (l2Has_any o.hn o.hs A C v.hold _ 0 _ (by omega) (strs_keep HST.out (by repeat (first|with_reducible exact FrP.refl _ _|with_reducible refine FrP.setNew ?_ (by (show _≤_∨_<_);simp only [World.size_setCell,World.size_alloc];omega) _|with_reducible refine FrP.trans ?_ (FrP.of_below (below_alloc _ _)))))).mono ?_
   rintro e w2 ⟨rfl,rfl⟩
   rw [HH.out]
   go_wp2
   refine bodyPost_ret (v:=.tuple #[.agg #[.int .i64 0,.bool false,.string ⟨#[]⟩,.string ⟨#[]⟩,.int .i64 0,.int .i64 0,.string ⟨#[]⟩,.bool false,.slice none 0 0],.int .i64 6]) (by simp [results,Tryz.results75,go_sem,r0,r1,r2,r3,r4,r5,r6,r7,r8,z1,(show w.1.size+1+1<w1.1.size+1 by omega),World.cell?_alloc_lt]) rfl ⟨rfl,by repeat (first|with_reducible exact HB.out|with_reducible refine Below.setCell ?_ (by first|omega|(simp;omega)) _|with_reducible refine Below.alloc ?_ (by first|omega|(simp;omega)) _|with_reducible refine Below.drew ?_)⟩
 ·clear hE
  rcases HSV.out with hs|⟨hs0,hs⟩
  ·rw [hs] at p3
   clear hs
   go_wp2_with fail
   refine (l2Has_any o.hn o.hs A C v.hold _ 0 _ (by omega) (strs_keep HST.out (by repeat (first|with_reducible exact FrP.refl _ _|with_reducible refine FrP.setNew ?_ (by (show _≤_∨_<_);simp only [World.size_setCell,World.size_alloc];omega) _|with_reducible refine FrP.trans ?_ (FrP.of_below (below_alloc _ _)))))).mono ?_
   rintro e w2 ⟨rfl,rfl⟩
   rw [HH.out]
   go_wp2
   refine bodyPost_ret (v:=.tuple #[.agg #[.int .i64 0,.bool false,.string ⟨#[]⟩,.string ⟨#[]⟩,.int .i64 0,.int .i64 0,.string ⟨#[]⟩,.bool false,.slice none 0 0],.int .i64 6]) (by simp [results,Tryz.results75,go_sem,r0,r1,r2,r3,r4,r5,r6,r7,r8,z1,(show w.1.size+1+1<w1.1.size+1 by omega),World.cell?_alloc_lt]) rfl ⟨rfl,by repeat (first|with_reducible exact HB.out|with_reducible refine Below.setCell ?_ (by first|omega|(simp;omega)) _|with_reducible refine Below.alloc ?_ (by first|omega|(simp;omega)) _|with_reducible refine Below.drew ?_)⟩
  ·rw [hs] at p3
   have hsb:(o.ver != 0)=true:=by rw [←hs];simpa using hs0
   clear hs hs0
   go_wp2_with fail
   refine (l2Has_any o.hn o.hs A C v.hold _ 0 _ (by omega) (strs_keep HST.out (by repeat (first|with_reducible exact FrP.refl _ _|with_reducible refine FrP.setNew ?_ (by (show _≤_∨_<_);simp only [World.size_setCell,World.size_alloc];omega) _|with_reducible refine FrP.trans ?_ (FrP.of_below (below_alloc _ _)))))).mono ?_
   rintro e w2 ⟨rfl,rfl⟩
   rw [HH.out]
   go_wp2
   refine bodyPost_ret (v:=.tuple #[.agg #[.int .i64 0,.bool false,.string ⟨#[]⟩,.string ⟨#[]⟩,.int .i64 0,.int .i64 0,.string ⟨#[]⟩,.bool false,.slice none 0 0],.int .i64 6]) (by simp [results,Tryz.results75,go_sem,r0,r1,r2,r3,r4,r5,r6,r7,r8,z1,(show w.1.size+1+1<w1.1.size+1 by omega),World.cell?_alloc_lt]) rfl ⟨rfl,by repeat (first|with_reducible exact HB.out|with_reducible refine Below.setCell ?_ (by first|omega|(simp;omega)) _|with_reducible refine Below.alloc ?_ (by first|omega|(simp;omega)) _|with_reducible refine Below.drew ?_)⟩
end Go.Proofs.YtllmmkchokkaaaaGreatDoor
