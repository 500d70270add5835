import Derived.Test.YtllmmkchokkaaaaGreatDoorPk04
import Derived.Test.YtllmmkchokkaaaaGreatDoorPk02
set_option maxRecDepth 100000
set_option maxHeartbeats 1000000
namespace Go.Proofs.YtllmmkchokkaaaaGreatDoor
open Go.RowKit
structure GW (w:World) where
 val:World
 prop:Below w.1.size w val
theorem wp_region_grow {P:Program} {id:Nat} {Q:Exit→Act→World→Prop} {a:Act} {w:World} {l:List Oper} (hm:P.follows .mixedOrders=true) (hB:Region.lexB .any l.toArray=true)
  (h:wpQuiet P l.toArray (fun w'=>∃ u:GW w,w'=u.val) (fun a'=>∀ w',(∃ u:GW w,w'=u.val)→Q .normal a' w') l a):(Code.region id l.toArray true).wp P Q a w:=
 wp_region_quiet (C:=fun w'=>∃ u:GW w,w'=u.val) hm hB ⟨⟨w.drew,(Below.refl _ _).drew⟩,rfl⟩ (by simpa using h)
theorem grow_of {P:Program} {f:FuncId} {args:Array Value} {w:World} {v:Value} {u:GW w}
  (h:Calls P f args u.val fun e w'=>e=.returned v∧Below u.val.1.size u.val w'):Calls P f args u.val fun e w''=>e=.returned v∧∃ u':GW w,w''=u'.val:=
 h.mono fun _ w'' ⟨he,hb⟩=>⟨he,⟨w'',u.prop.trans (hb.mono u.prop.size)⟩,rfl⟩
theorem subcell {W1:World} {p:Addr} {v:Value} (h:W1.cell? p=some v) (hp:p.block<W1.1.size):∀ u:GW W1,u.val.cell? p=some v:=fun u=>(u.prop.cell hp).trans h
def partsB (x:Ob) (now:Int):Bool:=nameB x.kind&&(nameB x.name&&(inB x.ver 1 now&&(inB x.born 1 x.ver&&(decide (x.text.size≤300)&&holdsB x.hn x.hs))))
theorem below_drewN' (w:World) (q:Nat):Below w.1.size w (w.drewN q):=⟨rfl,rfl,rfl,Nat.le_refl _,fun _ _=>rfl⟩
theorem apP050 {P:Prop} (h:P:=by
  go_enter Tryz.func126,Tryz.ntmps126
  go_wp2_with (first|(go_at_call 110;refine (nameOk_any _ _ (by first|exact fk|exact fn)).mono ?_;rintro e w1 ⟨rfl,rfl⟩)|(go_at_call 70;refine (in_any _ _ _ _).mono ?_;rintro e w1 ⟨rfl,rfl⟩)|(go_at_call 175;refine (asc_any x.hn x.hs ad cap _ lo hi hfh fs (hcA _)).mono ?_;rintro e w1 ⟨rfl,q,rfl⟩))
  go_ret
  exact ⟨ret_bool HE.out.symm,by first|exact below_alloc' _ _|exact (below_alloc' _ _).trans ((below_drewN' _ _).mono Zd)⟩):P:=h
theorem parts_any (x:Ob) (now:Int) (ad:Option Addr) (cap:Nat) (w:World) (lo hi:Nat) (hhi:hi≤w.1.size) (hf:ObFit x) (hc:StrsIn w lo hi ad x.hn x.hs) :
  Calls Tryz.prog 126 #[.agg #[.string x.kind,.string x.name,.int .i64 x.ver,.int .i64 x.born,.string x.text,.bool x.ending,.slice ad x.hn cap],.int .i64 now] w fun e w'=>e=.returned (.bool (partsB x now))∧Below w.1.size w w':=by
 obtain ⟨fk,fn,ft,fh,fs,_⟩:=hf
 have hfh:(x.hn:Int)≤140737488355328:=Za
 have hcA:=fun o=>hc.alloc hhi o
 cases h1:nameB x.kind with
 | false=>
  have HE:=hid (show partsB x now=false by simp [partsB,h1])
  exact apP050
 | true=>
  cases h2:nameB x.name with
  | false=>
   have HE:=hid (show partsB x now=false by simp [partsB,h1,h2])
   exact apP050
  | true=>
   cases h3:inB x.ver 1 now with
   | false=>
    have HE:=hid (show partsB x now=false by simp [partsB,h1,h2,h3])
    exact apP050
   | true=>
    cases h4:inB x.born 1 x.ver with
    | false=>
     have HE:=hid (show partsB x now=false by simp [partsB,h1,h2,h3,h4])
     exact apP050
    | true=>
     by_cases h5:(x.text.size:Int)≤300
     case neg=>
      have h5b:decide (x.text.size≤300)=false:=decide_eq_false Za
      have HE:=hid (show partsB x now=false by simp [partsB,h1,h2,h3,h4,h5b])
      exact apP050
     have h5b:decide (x.text.size≤300)=true:=decide_eq_true Za
     by_cases h6:(x.hn:Int)≤5
     case neg=>
      have h6b:holdsB x.hn x.hs=false:=by unfold holdsB;rw [decide_eq_false Za];rfl
      have HE:=hid (show partsB x now=false by simp [partsB,h1,h2,h3,h4,h5b,h6b])
      exact apP050
     cases h7:ascB x.hn x.hs with
     | false=>
      have h6b:holdsB x.hn x.hs=false:=by unfold holdsB;rw [h7];simp
      have HE:=hid (show partsB x now=false by simp [partsB,h1,h2,h3,h4,h5b,h6b])
      exact apP050
     | true=>
      have h6b:holdsB x.hn x.hs=true:=by unfold holdsB;rw [h7,decide_eq_true (show x.hn≤5 by omega)];rfl
      have HE:=hid (show partsB x now=true by simp [partsB,h1,h2,h3,h4,h5b,h6b])
      exact apP050
theorem apP051 {P:Prop} (h:P:=by
  go_enter Tryz.func136,Tryz.ntmps136
  go_wp2_with (first|(go_at_call 90;refine (isName_any _ _ (by first|exact fk|exact fn)).mono ?_;rintro e w1 ⟨rfl,rfl⟩)|(go_at_call 118;refine (within_any _ _ _ _).mono ?_;rintro e w1 ⟨rfl,rfl⟩)|(go_at_call 177;refine (holdsFit_any x.hn x.hs ad cap _ lo hi hfh fs (hcA _)).mono ?_;rintro e w1 ⟨rfl,q,rfl⟩))
  go_ret
  exact ⟨ret_bool HE.out.symm,by first|exact below_alloc' _ _|exact (below_alloc' _ _).trans ((below_drewN' _ _).mono Zd)⟩):P:=h
theorem objFits_any (x:Ob) (now:Int) (ad:Option Addr) (cap:Nat) (w:World) (lo hi:Nat) (hhi:hi≤w.1.size) (hf:ObFit x) (hc:StrsIn w lo hi ad x.hn x.hs) :
  Calls Tryz.prog 136 #[.agg #[.string x.kind,.string x.name,.int .i64 x.ver,.int .i64 x.born,.string x.text,.bool x.ending,.slice ad x.hn cap],.int .i64 now] w fun e w'=>e=.returned (.bool (partsB x now))∧Below w.1.size w w':=by
 obtain ⟨fk,fn,ft,fh,fs,_⟩:=hf
 have hfh:(x.hn:Int)≤140737488355328:=Za
 have hcA:=fun o=>hc.alloc hhi o
 cases h1:nameB x.kind with
 | false=>
  have HE:=hid (show partsB x now=false by simp [partsB,h1])
  exact apP051
 | true=>
  cases h2:nameB x.name with
  | false=>
   have HE:=hid (show partsB x now=false by simp [partsB,h1,h2])
   exact apP051
  | true=>
   cases h3:inB x.ver 1 now with
   | false=>
    have HE:=hid (show partsB x now=false by simp [partsB,h1,h2,h3])
    exact apP051
   | true=>
    cases h4:inB x.born 1 x.ver with
    | false=>
     have HE:=hid (show partsB x now=false by simp [partsB,h1,h2,h3,h4])
     exact apP051
    | true=>
     by_cases h5:(x.text.size:Int)≤300
     case neg=>
      have h5b:decide (x.text.size≤300)=false:=decide_eq_false Za
      have HE:=hid (show partsB x now=false by simp [partsB,h1,h2,h3,h4,h5b])
      exact apP051
     have h5b:decide (x.text.size≤300)=true:=decide_eq_true Za
     cases h6:holdsB x.hn x.hs with
     | false=>
      have HE:=hid (show partsB x now=false by simp [partsB,h1,h2,h3,h4,h5b,h6])
      exact apP051
     | true=>
      have HE:=hid (show partsB x now=true by simp [partsB,h1,h2,h3,h4,h5b,h6])
      exact apP051
theorem parts_en (x:Ob) (now:Int) (en:Bool) (hen:x.ending=en) (ad:Option Addr) (cap:Nat) (w:World) (lo hi:Nat) (hhi:hi≤w.1.size) (hf:ObFit x) (hc:StrsIn w lo hi ad x.hn x.hs) :
  Calls Tryz.prog 126 #[.agg #[.string x.kind,.string x.name,.int .i64 x.ver,.int .i64 x.born,.string x.text,.bool en,.slice ad x.hn cap],.int .i64 now] w fun e w'=>e=.returned (.bool (partsB x now))∧Below w.1.size w w':=by
 subst hen
 exact parts_any x now ad cap w lo hi hhi hf hc
theorem key_en (x z:Ob) (e1 e2:Bool) (ad ad2:Option Addr) (cap cap2:Nat) (w:World) :
  Calls Tryz.prog 127 #[.agg #[.string x.kind,.string x.name,.int .i64 x.ver,.int .i64 x.born,.string x.text,.bool e1,.slice ad x.hn cap],.agg #[.string z.kind,.string z.name,.int .i64 z.ver,.int .i64 z.born,.string z.text,.bool e2,.slice ad2 z.hn cap2]] w fun e w'=>e=.returned (.int .i64 (keyI x z))∧Below w.1.size w w':=
 key_any ⟨x.kind,x.name,x.ver,x.born,x.text,e1,x.hn,x.hs⟩ ⟨z.kind,z.name,z.ver,z.born,z.text,e2,z.hn,z.hs⟩ ad ad2 cap cap2 w
end Go.Proofs.YtllmmkchokkaaaaGreatDoor
