import Derived.Test.YtllmmkchokkaaaaGreatDoorPk16
set_option maxRecDepth 100000
set_option maxHeartbeats 1000000
namespace Go.Proofs.YtllmmkchokkaaaaGreatDoor
open Go.RowKit Go.Maps
theorem keyI_zero (x z:Ob):(keyI x z==0)=(decide (x.kind=z.kind∧x.name=z.name)):=by
 unfold keyI
 by_cases hk:x.kind=z.kind
 ·rw [hk,ltB_irr rfl]
  by_cases hn:x.name=z.name
  ·rw [hn,ltB_irr rfl];simp
  ·have h2:¬x.name.toList=z.name.toList:=fun e=>hn (toList_inj' e)
   cases ltB x.name z.name<;>simp [hn,h2]
 ·have h1:¬x.kind.toList=z.kind.toList:=fun e=>hk (toList_inj' e)
  cases ltB x.kind z.kind<;>simp [hk,h1]
theorem lst_down {h:Nat→Ch} {a b:ByteArray} {j:Nat} : ∀ {m:Nat},j≤m→(∀ l,j≤l→l<m→¬((h l).ob.kind=a∧(h l).ob.name=b))→lst h a b m=lst h a b j:=by
 intro m hm
 induction m with
 | zero=>
   intro _;have:j=0:=Za
   subst this;rfl
 | succ m ih=>
  intro hall
  rcases Nat.lt_or_ge m j with h3|h3
  ·have:j=m+1:=Za
   subst this;rfl
  ·rw [lst_miss (hall m h3 Za)]
   exact ih h3 (fun l h1 h2=>hall l h1 Za)
def lastI (h:Nat→Ch) (o:Ob) (m:Nat):Int:=match lst h o.kind o.name m with|none=>-1|some i=>i
theorem l1Last_any (n m:Nat) (h:Nat→Ch) (o:Ob) (ad ad2:Option Addr) (cap cap2:Nat) (w:World) (lo hi:Nat) (hhi:hi≤w.1.size) (hl:(n:Int)≤1099511627776) (hm:m≤n) (hc:ChgsIn w lo hi ad n h) :
  Calls Tryz.prog 128 #[.slice ad n cap,.agg #[.string o.kind,.string o.name,.int .i64 o.ver,.int .i64 o.born,.string o.text,.bool o.ending,.slice ad2 o.hn cap2],.int .i64 m] w fun e w'=>e=.returned (.int .i64 (lastI h o m))∧Below w.1.size w w':=by
 go_enter Tryz.func128,Tryz.ntmps128
 go_wp2
 go_loopw [7] (fun i wr=>∃ j:Nat,j≤m∧i=.int .i64 ((j:Int)-1)∧(∀ l,j≤l→l<m→¬((h l).ob.kind=o.kind∧(h l).ob.name=o.name))∧Below (w.1.size+1) (w.alloc (.cells #[.string o.kind,.string o.name,.int .i64 o.ver,.int .i64 o.born,.string o.text,.bool o.ending,.slice ad2 o.hn cap2] 118)) wr) (fun i _=>(intOf i+1).toNat)
 case atStart=>exact ⟨m,Nat.le_refl _,by go_num,fun l h1 h2=>absurd h2 Za,Below.refl _ _⟩
 case round=>
  obtain ⟨j,hj,rfl,hall,hb⟩:=hrel
  have hBw:Below w.1.size w wr:=(below_alloc' _ _).trans (hb.mono Za)
  have hsz:w.1.size+1≤wr.1.size:=by have:=hb.size;simpa using this
  rcases Nat.eq_zero_or_pos j with rfl|hjp
  ·have HE:=hid (show lastI h o m = -1 by unfold lastI;rw [lst_down Zbw hall];rfl)
   clear hc hall
   go_wp2
   go_ret
   exact ⟨ret_int HE.out.symm,hBw⟩
  ·obtain ⟨k,rfl⟩:∃ k,j=k+1:=⟨j-1,Za⟩
   obtain ⟨b,off,ah,ch,rfl,hlo,hbh,hcx,hsx⟩:=hc k Za
   obtain ⟨d0,d1,d2,d3,d4,d5,d6,d7,d8⟩:=hcx.below hBw Za
   have hbw:b<wr.1.size:=Za
   have y2:=subcell d2 hbw
   have y3:=subcell d3 hbw
   have y4:=subcell d4 hbw
   have y5:=subcell d5 hbw
   have y6:=subcell d6 hbw
   have y7:=subcell d7 hbw
   have y8:=subcell d8 hbw
   have z0:=subcell (p:=⟨w.1.size,0,none⟩) (v:=.string o.kind) (box_cell (w:=w) (c:=#[.string o.kind,.string o.name,.int .i64 o.ver,.int .i64 o.born,.string o.text,.bool o.ending,.slice ad2 o.hn cap2]) (t:=118) Zaj 0) Zh
   have z1:=subcell (p:=⟨w.1.size,1,none⟩) (v:=.string o.name) (box_cell (w:=w) (c:=#[.string o.kind,.string o.name,.int .i64 o.ver,.int .i64 o.born,.string o.text,.bool o.ending,.slice ad2 o.hn cap2]) (t:=118) Zaj 1) Zh
   have z2:=subcell (p:=⟨w.1.size,2,none⟩) (v:=.int .i64 o.ver) (box_cell (w:=w) (c:=#[.string o.kind,.string o.name,.int .i64 o.ver,.int .i64 o.born,.string o.text,.bool o.ending,.slice ad2 o.hn cap2]) (t:=118) Zaj 2) Zh
   have z3:=subcell (p:=⟨w.1.size,3,none⟩) (v:=.int .i64 o.born) (box_cell (w:=w) (c:=#[.string o.kind,.string o.name,.int .i64 o.ver,.int .i64 o.born,.string o.text,.bool o.ending,.slice ad2 o.hn cap2]) (t:=118) Zaj 3) Zh
   have z4:=subcell (p:=⟨w.1.size,4,none⟩) (v:=.string o.text) (box_cell (w:=w) (c:=#[.string o.kind,.string o.name,.int .i64 o.ver,.int .i64 o.born,.string o.text,.bool o.ending,.slice ad2 o.hn cap2]) (t:=118) Zaj 4) Zh
   have z5:=subcell (p:=⟨w.1.size,5,none⟩) (v:=.bool o.ending) (box_cell (w:=w) (c:=#[.string o.kind,.string o.name,.int .i64 o.ver,.int .i64 o.born,.string o.text,.bool o.ending,.slice ad2 o.hn cap2]) (t:=118) Zaj 5) Zh
   have z6:=subcell (p:=⟨w.1.size,6,none⟩) (v:=.slice ad2 o.hn cap2) (box_cell (w:=w) (c:=#[.string o.kind,.string o.name,.int .i64 o.ver,.int .i64 o.born,.string o.text,.bool o.ending,.slice ad2 o.hn cap2]) (t:=118) Zaj 6) Zh
   have hne:Nonempty (GW wr):=⟨⟨wr,Below.refl _ _⟩⟩
   have hkz:(k:Int)+1≤n:=Za
   have hk1:((k+1:Nat):Int)-1=(k:Int):=Za
   have HA:=hid hall
   clear hall hc hcx hsx d0 d1 d2 d3 d4 d5 d6 d7 d8
   rw [hk1]
   by_cases hh:(h k).ob.kind=o.kind∧(h k).ob.name=o.name
   ·have HE:=hid (show lastI h o m=k by unfold lastI;rw [lst_down hj HA.out,lst_hit hh])
    have hd:(keyI (h k).ob o==0)=true:=by rw [keyI_zero];exact decide_eq_true hh
    clear hh
    go_wp2
    refine wp_region_grow Zf Zf ?_
    repeat (go_big_quiet_step ((go_at_call 127;go_must (exact grow_of (key_any (h k).ob o _ _ _ _ _)))))
    refine wpQuiet_nil ?_
    rintro w2 ⟨u,hu⟩
    have hw2:Below wr.1.size wr w2:=hu▸u.prop
    clear hu u
    go_wp2
    go_ret
    exact ⟨ret_int HE.out.symm,hBw.trans (hw2.mono Za)⟩
   ·have HN:=hid hh
    have hd:(keyI (h k).ob o==0)=false:=by rw [keyI_zero];exact decide_eq_false hh
    clear hh
    go_wp2
    refine wp_region_grow Zf Zf ?_
    repeat (go_big_quiet_step ((go_at_call 127;go_must (exact grow_of (key_any (h k).ob o _ _ _ _ _)))))
    refine wpQuiet_nil ?_
    rintro w2 ⟨u,hu⟩
    have hw2:Below wr.1.size wr w2:=hu▸u.prop
    clear hu u
    go_wp2
    go_roundw
    case rel=>exact ⟨k,Za,by go_num,fun l h1 h2=>(by
     rcases Nat.lt_or_ge k l with h3|h3
     ·exact HA.out l h3 h2
     ·have:l=k:=Za
      subst this;exact HN.out),hb.trans (hw2.mono Za)⟩
    case measure=>simp [intOf]
end Go.Proofs.YtllmmkchokkaaaaGreatDoor
