import Derived.Test.YtllmmkchokkaaaaGreatDoorPk31
import Derived.Test.YtllmmkchokkaaaaGreatDoorPk39
set_option maxRecDepth 100000
namespace Go.Proofs.YtllmmkchokkaaaaGreatDoor
open Go.RowKit Go.Maps
theorem wOf_is {B:Bk} {v:Wr} (hok:WOk B v):(wOf B v).hn≤5∧HsAsc (wOf B v).hn (wOf B v).hs∧(fndIs B.os v.kind v.name B.on=false→wOf B v=ob0):=by
 unfold wOf fndOb fndIs
 cases h:fnd B.os v.kind v.name B.on with
 | none=>exact ⟨Nat.zero_le _,fun i j _ h2=>absurd h2 (Nat.not_lt_zero _),fun _=>rfl⟩
 | some i=>
  have h1:=hok.hold i (fnd_lt h).1
  exact ⟨h1.1,h1.2,fun h2=>by simp at h2⟩
theorem chg_err {B:Bk} {v:Wr} {w:World} {c:Int} (hc:oCode B v=c) (h0:¬c=0) {e:Ending} {w':World} (h:e=.returned (.tuple #[.agg #[.int .i64 0,.bool false,.string ⟨#[]⟩,.string ⟨#[]⟩,.int .i64 0,.int .i64 0,.string ⟨#[]⟩,.bool false,.slice none 0 0],.int .i64 c])∧Below w.1.size w w'):ChgP B v w e w':=by
 have hw:wCode B v=c:=by unfold wCode;rw [hc,if_neg h0]
 exact ⟨h.2,Or.inl ⟨by rw [hw];exact h0,by rw [hw];exact h.1⟩⟩
theorem op1_seen {v:Wr} (h:wrB v=true) (h1:v.op=1):v.seen=0:=by
 unfold wrB at h
 rw [Bool.and_eq_true] at h
 have h2:=h.2
 unfold useB at h2
 rw [if_pos h1] at h2
 exact of_decide_eq_true h2
theorem gone_is (n:Nat):(!(!true||decide (0<n)))=((n:Int)==0):=by
 cases n with
 | zero=>rfl
 | succ k=>simp;omega
theorem chg_any (B:Bk) (v:Wr) (a1 a2 a3:Option Addr) (c1 c2 c3:Nat) (w:World) (hok:WOk B v) (hc:ObjsIn w 0 w.1.size a1 B.on B.os) :
  Calls Tryz.prog 75 #[.agg #[.int .i64 B.now,.int .i64 B.floor,.slice a1 B.on c1,.slice a2 B.hn c2,.slice a3 B.tn c3],.agg #[.int .i64 v.op,.string v.kind,.string v.name,.int .i64 v.seen,.string v.text,.string v.hold]] w fun e w'=>ChgP B v w e w':=by
 obtain ⟨hl,hasc,hno⟩:=wOf_is hok
 have hol:((wOf B v).hn:Int)≤5:=by omega
 cases ht:fndIs B.os v.kind v.name B.on with
 | false=>
  by_cases h1:v.op=1
  ·have hw:=hno ht
   have hs:=op1_seen hok.wr h1
   have he:(wOf B v).ending=false:=by rw [hw];rfl
   have hoc:=oc_new ht hw h1 hs
   by_cases h100:100≤B.on
   ·rw [if_pos h100] at hoc
    exact (chg_1f B v a1 a2 a3 c1 c2 c3 (wOf B v) w hok hc rfl hol ht h1 hs he h100).mono (fun _ _ h=>chg_err hoc (by decide) h)
   ·rw [if_neg h100] at hoc
    by_cases hh0:v.hold=⟨#[]⟩
    ·have hx:wOb B v=⟨v.kind,v.name,B.now+1,B.now+1,v.text,false,0,fun _=>v.hold⟩:=by
      unfold wOb opOb
      rw [if_pos h1,if_pos (by simp [emB,hh0])]
     have hg:wGone B v=false:=by unfold wGone;rw [hx];simp [standB]
     exact chg_1e B v a1 a2 a3 c1 c2 c3 (wOf B v) w hok hc rfl hol ht h1 hoc hs he hh0 h100 (by show _=Value.agg #[.int .i64 (B.now+1),.bool (wGone B v),.string (wOb B v).kind,.string (wOb B v).name,.int .i64 (wOb B v).ver,.int .i64 (wOb B v).born,.string (wOb B v).text,.bool (wOb B v).ending,.slice _ (wOb B v).hn _];rw [hg,hx]) (fun W A=>by show StrsIn W 0 _ A (wOb B v).hn (wOb B v).hs=_;rw [hx])
    ·have hx:wOb B v=⟨v.kind,v.name,B.now+1,B.now+1,v.text,false,1,fun _=>v.hold⟩:=by
      unfold wOb opOb
      rw [if_pos h1,if_neg (by simp [emB,hh0])]
     have hg:wGone B v=false:=by unfold wGone;rw [hx];simp [standB]
     exact chg_1h B v a1 a2 a3 c1 c2 c3 (wOf B v) w hok hc rfl hol ht h1 hoc hs he hh0 h100 (fun _ _=>by show _=Value.agg #[.int .i64 (B.now+1),.bool (wGone B v),.string (wOb B v).kind,.string (wOb B v).name,.int .i64 (wOb B v).ver,.int .i64 (wOb B v).born,.string (wOb B v).text,.bool (wOb B v).ending,.slice _ (wOb B v).hn _];rw [hg,hx]) (fun W A=>by show StrsIn W 0 _ A (wOb B v).hn (wOb B v).hs=_;rw [hx])
  ·exact (chg3_none B v a1 a2 a3 c1 c2 c3 (wOf B v) w hok hc rfl hol ht h1).mono (fun _ _ h=>chg_err (oc_none ht h1).1 (by decide) h)
 | true=>
  by_cases h1:v.op=1
  ·exact (chg3_there B v a1 a2 a3 c1 c2 c3 (wOf B v) w hok hc rfl hol ht h1).mono (fun _ _ h=>chg_err (oc_there ht h1).1 (by decide) h)
  by_cases hst:¬v.seen=0∧¬v.seen=(wOf B v).ver
  ·exact (chg4 B v a1 a2 a3 c1 c2 c3 (wOf B v) w hok hc rfl hol ht h1 hst.1 hst.2).mono (fun _ _ h=>chg_err (oc_stale ht h1 hst).1 (by decide) h)
  have hsv:v.seen=0∨(¬v.seen=0∧v.seen=(wOf B v).ver):=by
   by_cases h:v.seen=0
   ·exact Or.inl h
   ·exact Or.inr ⟨h,Classical.byContradiction (fun q=>hst ⟨h,q⟩)⟩
  by_cases hend:(wOf B v).ending=true∧¬v.op=5
  ·exact (chg5 B v a1 a2 a3 c1 c2 c3 (wOf B v) w hok hc rfl hol ht h1 hend.2 hsv hend.1).mono (fun _ _ h=>chg_err (oc_end ht h1 hst hend.1 hend.2).1 (by decide) h)
  have hoc:=oc_go ht h1 hst hend
  have he:¬v.op=5→(wOf B v).ending=false:=fun h5=>by
   cases h:(wOf B v).ending with
   | false=>rfl
   | true=>exact absurd ⟨h,h5⟩ hend
  rcases op_range hok.wr with h|h|h|h|h
  ·exact absurd h h1
  ·have he:=he (by omega)
   rw [if_neg (by omega),if_neg (by omega)] at hoc
   have hx:wOb B v=⟨(wOf B v).kind,(wOf B v).name,B.now+1,(wOf B v).born,v.text,false,(wOf B v).hn,(wOf B v).hs⟩:=by
    unfold wOb opOb
    rw [if_neg h1,if_pos h,he]
   have hg:wGone B v=false:=by unfold wGone;rw [hx];simp [standB]
   exact chg_2 B v a1 a2 a3 c1 c2 c3 (wOf B v) w hok hc rfl hol ht h hoc hsv he (fun _ _=>by show _=Value.agg #[.int .i64 (B.now+1),.bool (wGone B v),.string (wOb B v).kind,.string (wOb B v).name,.int .i64 (wOb B v).ver,.int .i64 (wOb B v).born,.string (wOb B v).text,.bool (wOb B v).ending,.slice _ (wOb B v).hn _];rw [hg,hx]) (fun W A=>by show StrsIn W 0 _ A (wOb B v).hn (wOb B v).hs=_;rw [hx])
  ·have he:=he (by omega)
   rw [if_neg (by omega),if_neg (by omega)] at hoc
   have hx:wOb B v=⟨(wOf B v).kind,(wOf B v).name,B.now+1,(wOf B v).born,(wOf B v).text,true,(wOf B v).hn,(wOf B v).hs⟩:=by
    unfold wOb opOb
    rw [if_neg h1,if_neg (by omega),if_pos h]
   have hg:wGone B v=(((wOf B v).hn:Int)==0):=by unfold wGone;rw [hx];exact gone_is _
   exact chg_3 B v a1 a2 a3 c1 c2 c3 (wOf B v) w hok hc rfl hol ht h hoc hsv he (fun _ _=>by show _=Value.agg #[.int .i64 (B.now+1),.bool (wGone B v),.string (wOb B v).kind,.string (wOb B v).name,.int .i64 (wOb B v).ver,.int .i64 (wOb B v).born,.string (wOb B v).text,.bool (wOb B v).ending,.slice _ (wOb B v).hn _];rw [hg,hx]) (fun W A=>by show StrsIn W 0 _ A (wOb B v).hn (wOb B v).hs=_;rw [hx])
  ·have he:=he (by omega)
   rw [if_pos h] at hoc
   cases hh:hasB (wOf B v).hn (wOf B v).hs v.hold with
   | true=>
    rw [hh,if_pos rfl] at hoc
    exact (chg_4h B v a1 a2 a3 c1 c2 c3 (wOf B v) w hok hc rfl hol ht h hsv he hh).mono (fun _ _ h=>chg_err hoc (by decide) h)
   | false=>
    rw [hh,if_neg (by decide)] at hoc
    by_cases h5:5≤(wOf B v).hn
    ·rw [if_pos h5] at hoc
     exact (chg_4f B v a1 a2 a3 c1 c2 c3 (wOf B v) w hok hc rfl hol ht h hsv he hh (by omega)).mono (fun _ _ h=>chg_err hoc (by decide) h)
    ·rw [if_neg h5] at hoc
     have hx:wOb B v=⟨(wOf B v).kind,(wOf B v).name,B.now+1,(wOf B v).born,(wOf B v).text,false,(wOf B v).hn+1,insS (wOf B v).hs (rkS (wOf B v).hs v.hold (wOf B v).hn) v.hold⟩:=by
      unfold wOb opOb
      rw [if_neg h1,if_neg (by omega),if_neg (by omega),if_pos h,he]
     have hg:wGone B v=false:=by unfold wGone;rw [hx];simp [standB]
     exact chg_4 B v a1 a2 a3 c1 c2 c3 (wOf B v) w hok hc rfl hol ht h hsv he hh (by omega) hoc (fun _ _=>by show _=Value.agg #[.int .i64 (B.now+1),.bool (wGone B v),.string (wOb B v).kind,.string (wOb B v).name,.int .i64 (wOb B v).ver,.int .i64 (wOb B v).born,.string (wOb B v).text,.bool (wOb B v).ending,.slice _ (wOb B v).hn _];rw [hg,hx]) (fun W A=>by show StrsIn W 0 _ A (wOb B v).hn (wOb B v).hs=_;rw [hx])
  ·rw [if_neg (by omega),if_pos h] at hoc
   cases hh:hasB (wOf B v).hn (wOf B v).hs v.hold with
   | false=>
    rw [hh,if_neg (by decide)] at hoc
    exact (chg_5n B v a1 a2 a3 c1 c2 c3 (wOf B v) w hok hc rfl hol ht h hsv hh).mono (fun _ _ h=>chg_err hoc (by decide) h)
   | true=>
    rw [hh,if_pos rfl] at hoc
    have hx0:wOb B v=⟨(wOf B v).kind,(wOf B v).name,B.now+1,(wOf B v).born,(wOf B v).text,(wOf B v).ending,(wOf B v).hn-1,remS (wOf B v).hs (rkS (wOf B v).hs v.hold (wOf B v).hn)⟩:=by
     unfold wOb opOb
     rw [if_neg h1,if_neg (by omega),if_neg (by omega),if_neg (by omega)]
    cases hE:(wOf B v).ending with
    | false=>
     have hx:=hx0
     rw [hE] at hx
     have hg:wGone B v=false:=by unfold wGone;rw [hx];simp [standB]
     exact chg_5f B v a1 a2 a3 c1 c2 c3 (wOf B v) w hok hc rfl hol ht h hsv hE hh hasc _ rfl hoc (fun _ _=>by show _=Value.agg #[.int .i64 (B.now+1),.bool (wGone B v),.string (wOb B v).kind,.string (wOb B v).name,.int .i64 (wOb B v).ver,.int .i64 (wOb B v).born,.string (wOb B v).text,.bool (wOb B v).ending,.slice _ (wOb B v).hn _];rw [hg,hx]) (fun W A=>by show StrsIn W 0 _ A (wOb B v).hn (wOb B v).hs=_;rw [hx])
    | true=>
     have hx:=hx0
     rw [hE] at hx
     have hg:wGone B v=((((wOf B v).hn-1:Nat):Int)==0):=by unfold wGone;rw [hx];exact gone_is _
     exact chg_5t B v a1 a2 a3 c1 c2 c3 (wOf B v) w hok hc rfl hol ht h hsv hE hh hasc _ rfl hoc (fun _ _=>by show _=Value.agg #[.int .i64 (B.now+1),.bool (wGone B v),.string (wOb B v).kind,.string (wOb B v).name,.int .i64 (wOb B v).ver,.int .i64 (wOb B v).born,.string (wOb B v).text,.bool (wOb B v).ending,.slice _ (wOb B v).hn _];rw [hg,hx]) (fun W A=>by show StrsIn W 0 _ A (wOb B v).hn (wOb B v).hs=_;rw [hx])
end Go.Proofs.YtllmmkchokkaaaaGreatDoor
