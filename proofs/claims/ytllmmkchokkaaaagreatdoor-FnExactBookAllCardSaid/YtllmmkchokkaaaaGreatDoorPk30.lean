import Derived.Test.YtllmmkchokkaaaaGreatDoorPk26
set_option maxRecDepth 100000
set_option maxHeartbeats 8000000
namespace Go.Proofs.YtllmmkchokkaaaaGreatDoor
open Go.RowKit Go.Maps
theorem apP305 {P:Prop} (h:P:=by
  go_wp2
  refine bodyPost_ret (v:=.tuple #[.agg #[.int .i64 0,.bool false,.string ⟨#[]⟩,.string ⟨#[]⟩,.int .i64 0,.int .i64 0,.string ⟨#[]⟩,.bool false,.slice none 0 0],.int .i64 3]) Zbl rfl ⟨rfl,by repeat (first|with_reducible exact HB.out|with_reducible refine Below.setCell ?_ Zj _|with_reducible refine Below.alloc ?_ Zj _|with_reducible refine Below.drew ?_)⟩):P:=h
theorem chg3_there (B:Bk) (v:Wr) (a1 a2 a3:Option Addr) (c1 c2 c3:Nat) (o:Ob) (w:World) (hok:WOk B v) (hc:ObjsIn w 0 w.1.size a1 B.on B.os) (ho:fndOb B.os v.kind v.name B.on=o) (_hol:(o.hn:Int)≤5) (ht:fndIs B.os v.kind v.name B.on=true) (hop:v.op=1) :
  Calls Tryz.prog 75 #[.agg #[.int .i64 B.now,.int .i64 B.floor,.slice a1 B.on c1,.slice a2 B.hn c2,.slice a3 B.tn c3],.agg #[.int .i64 v.op,.string v.kind,.string v.name,.int .i64 v.seen,.string v.text,.string v.hold]] w fun e w'=>e=.returned (.tuple #[.agg #[.int .i64 0,.bool false,.string ⟨#[]⟩,.string ⟨#[]⟩,.int .i64 0,.int .i64 0,.string ⟨#[]⟩,.bool false,.slice none 0 0],.int .i64 3])∧Below w.1.size w w':=by
 have B3:∀ o1 o2 o3,Below w.1.size w (((w.alloc o1).alloc o2).alloc o3):=fun o1 o2 o3=>(((Below.refl _ _).alloc Zbt _).alloc Zd _).alloc Zc _
 have HB3:=hid B3
 have HOK:=hid hok
 have HC:=hid hc
 have HO:=hid ho
 have hn0:=hok.now0
 have hn1:=hok.now1
 have hon:(B.on:Int)≤100:=by have:=hok.on;omega
 clear hok hc ho B3
 have HT:=hid ht
 have HOP:=hid hop
 clear ht hop
 go_enter Tryz.func75,Tryz.ntmps75
 go_wp2_with fail
 refine (specFind_any B.now B.floor B.on B.os a1 a2 a3 c1 B.hn c2 B.tn c3 v.kind v.name _ 0 w.1.size Zc Za HOK.out.fit.os (HC.out.below (HB3.out _ _ _) Zbt)).mono ?_
 rintro e w1 ⟨A,C,rfl,hcap,hst,hb1⟩
 rw [HO.out] at hcap hst
 rw [HO.out,HT.out]
 have z1:w.1.size+1+1<w1.1.size:=by have:=hb1.size;simp at this;omega
 have zA:w.1.size<w1.1.size:=Za
 have zB:w.1.size+1<w1.1.size:=Za
 obtain ⟨X0,X1,X2,Y1,Y2⟩:=three_cell hb1
 have b0:=X0 0
 have b1:=X0 1
 have b2:=X0 2
 have b3:=X0 3
 have b4:=X0 4
 have p0:=X1 0
 have p1:=X1 1
 have p2:=X1 2
 have p3:=X1 3
 have p4:=X1 4
 have p5:=X1 5
 have r0:=X2 0
 have r1:=X2 1
 have r2:=X2 2
 have r3:=X2 3
 have r4:=X2 4
 have r5:=X2 5
 have r6:=X2 6
 have r7:=X2 7
 have r8:=X2 8
 simp only [List.getElem?_toArray,List.getElem?_cons_succ,List.getElem?_cons_zero] at b0 b1 b2 b3 b4 p0 p1 p2 p3 p4 p5 r0 r1 r2 r3 r4 r5 r6 r7 r8
 have HB:=hid ((HB3.out _ _ _).trans (hb1.mono Zc))
 have HST:=hid hst
 clear X0 X1 X2 hb1 hst
 rw [HOP.out] at p0
 exact apP305
theorem chg3_none (B:Bk) (v:Wr) (a1 a2 a3:Option Addr) (c1 c2 c3:Nat) (o:Ob) (w:World) (hok:WOk B v) (hc:ObjsIn w 0 w.1.size a1 B.on B.os) (ho:fndOb B.os v.kind v.name B.on=o) (_hol:(o.hn:Int)≤5) (ht:fndIs B.os v.kind v.name B.on=false) (hop:¬v.op=1) :
  Calls Tryz.prog 75 #[.agg #[.int .i64 B.now,.int .i64 B.floor,.slice a1 B.on c1,.slice a2 B.hn c2,.slice a3 B.tn c3],.agg #[.int .i64 v.op,.string v.kind,.string v.name,.int .i64 v.seen,.string v.text,.string v.hold]] w fun e w'=>e=.returned (.tuple #[.agg #[.int .i64 0,.bool false,.string ⟨#[]⟩,.string ⟨#[]⟩,.int .i64 0,.int .i64 0,.string ⟨#[]⟩,.bool false,.slice none 0 0],.int .i64 3])∧Below w.1.size w w':=by
 have B3:∀ o1 o2 o3,Below w.1.size w (((w.alloc o1).alloc o2).alloc o3):=fun o1 o2 o3=>(((Below.refl _ _).alloc Zbt _).alloc Zd _).alloc Zc _
 have HB3:=hid B3
 have HOK:=hid hok
 have HC:=hid hc
 have HO:=hid ho
 have hn0:=hok.now0
 have hn1:=hok.now1
 have hon:(B.on:Int)≤100:=by have:=hok.on;omega
 clear hok hc ho B3
 have HT:=hid ht
 have hop1:(v.op==1)=false:=by simpa using hop
 clear ht hop
 go_enter Tryz.func75,Tryz.ntmps75
 go_wp2_with fail
 refine (specFind_any B.now B.floor B.on B.os a1 a2 a3 c1 B.hn c2 B.tn c3 v.kind v.name _ 0 w.1.size Zc Za HOK.out.fit.os (HC.out.below (HB3.out _ _ _) Zbt)).mono ?_
 rintro e w1 ⟨A,C,rfl,hcap,hst,hb1⟩
 rw [HO.out] at hcap hst
 rw [HO.out,HT.out]
 have z1:w.1.size+1+1<w1.1.size:=by have:=hb1.size;simp at this;omega
 have zA:w.1.size<w1.1.size:=Za
 have zB:w.1.size+1<w1.1.size:=Za
 obtain ⟨X0,X1,X2,Y1,Y2⟩:=three_cell hb1
 have b0:=X0 0
 have b1:=X0 1
 have b2:=X0 2
 have b3:=X0 3
 have b4:=X0 4
 have p0:=X1 0
 have p1:=X1 1
 have p2:=X1 2
 have p3:=X1 3
 have p4:=X1 4
 have p5:=X1 5
 have r0:=X2 0
 have r1:=X2 1
 have r2:=X2 2
 have r3:=X2 3
 have r4:=X2 4
 have r5:=X2 5
 have r6:=X2 6
 have r7:=X2 7
 have r8:=X2 8
 simp only [List.getElem?_toArray,List.getElem?_cons_succ,List.getElem?_cons_zero] at b0 b1 b2 b3 b4 p0 p1 p2 p3 p4 p5 r0 r1 r2 r3 r4 r5 r6 r7 r8
 have HB:=hid ((HB3.out _ _ _).trans (hb1.mono Zc))
 have HST:=hid hst
 clear X0 X1 X2 hb1 hst
 exact apP305
theorem chg4 (B:Bk) (v:Wr) (a1 a2 a3:Option Addr) (c1 c2 c3:Nat) (o:Ob) (w:World) (hok:WOk B v) (hc:ObjsIn w 0 w.1.size a1 B.on B.os) (ho:fndOb B.os v.kind v.name B.on=o) (_hol:(o.hn:Int)≤5) (ht:fndIs B.os v.kind v.name B.on=true) (hop:¬v.op=1) (hs:¬v.seen=0) (hv:¬v.seen=o.ver) :
  Calls Tryz.prog 75 #[.agg #[.int .i64 B.now,.int .i64 B.floor,.slice a1 B.on c1,.slice a2 B.hn c2,.slice a3 B.tn c3],.agg #[.int .i64 v.op,.string v.kind,.string v.name,.int .i64 v.seen,.string v.text,.string v.hold]] w fun e w'=>e=.returned (.tuple #[.agg #[.int .i64 0,.bool false,.string ⟨#[]⟩,.string ⟨#[]⟩,.int .i64 0,.int .i64 0,.string ⟨#[]⟩,.bool false,.slice none 0 0],.int .i64 4])∧Below w.1.size w w':=by
 have B3:∀ o1 o2 o3,Below w.1.size w (((w.alloc o1).alloc o2).alloc o3):=fun o1 o2 o3=>(((Below.refl _ _).alloc Zbt _).alloc Zd _).alloc Zc _
 have HB3:=hid B3
 have HOK:=hid hok
 have HC:=hid hc
 have HO:=hid ho
 have hn0:=hok.now0
 have hn1:=hok.now1
 have hon:(B.on:Int)≤100:=by have:=hok.on;omega
 clear hok hc ho B3
 have HT:=hid ht
 have hop1:(v.op==1)=false:=by simpa using hop
 have hs1:(v.seen != 0)=true:=by simpa using hs
 have hv1:(v.seen != o.ver)=true:=by simpa using hv
 clear ht hop hs hv
 go_enter Tryz.func75,Tryz.ntmps75
 go_wp2_with fail
 refine (specFind_any B.now B.floor B.on B.os a1 a2 a3 c1 B.hn c2 B.tn c3 v.kind v.name _ 0 w.1.size Zc Za HOK.out.fit.os (HC.out.below (HB3.out _ _ _) Zbt)).mono ?_
 rintro e w1 ⟨A,C,rfl,hcap,hst,hb1⟩
 rw [HO.out] at hcap hst
 rw [HO.out,HT.out]
 have z1:w.1.size+1+1<w1.1.size:=by have:=hb1.size;simp at this;omega
 have zA:w.1.size<w1.1.size:=Za
 have zB:w.1.size+1<w1.1.size:=Za
 obtain ⟨X0,X1,X2,Y1,Y2⟩:=three_cell hb1
 have b0:=X0 0
 have b1:=X0 1
 have b2:=X0 2
 have b3:=X0 3
 have b4:=X0 4
 have p0:=X1 0
 have p1:=X1 1
 have p2:=X1 2
 have p3:=X1 3
 have p4:=X1 4
 have p5:=X1 5
 have r0:=X2 0
 have r1:=X2 1
 have r2:=X2 2
 have r3:=X2 3
 have r4:=X2 4
 have r5:=X2 5
 have r6:=X2 6
 have r7:=X2 7
 have r8:=X2 8
 simp only [List.getElem?_toArray,List.getElem?_cons_succ,List.getElem?_cons_zero] at b0 b1 b2 b3 b4 p0 p1 p2 p3 p4 p5 r0 r1 r2 r3 r4 r5 r6 r7 r8
 have HB:=hid ((HB3.out _ _ _).trans (hb1.mono Zc))
 have HST:=hid hst
 clear X0 X1 X2 hb1 hst
 go_wp2
 refine bodyPost_ret (v:=.tuple #[.agg #[.int .i64 0,.bool false,.string ⟨#[]⟩,.string ⟨#[]⟩,.int .i64 0,.int .i64 0,.string ⟨#[]⟩,.bool false,.slice none 0 0],.int .i64 4]) Zbl rfl ⟨rfl,by repeat (first|with_reducible exact HB.out|with_reducible refine Below.setCell ?_ Zj _|with_reducible refine Below.alloc ?_ Zj _|with_reducible refine Below.drew ?_)⟩
theorem apP306 {P:Prop} (h:P:=by
  go_wp2
  refine bodyPost_ret (v:=.tuple #[.agg #[.int .i64 0,.bool false,.string ⟨#[]⟩,.string ⟨#[]⟩,.int .i64 0,.int .i64 0,.string ⟨#[]⟩,.bool false,.slice none 0 0],.int .i64 5]) Zbl rfl ⟨rfl,by repeat (first|with_reducible exact HB.out|with_reducible refine Below.setCell ?_ Zj _|with_reducible refine Below.alloc ?_ Zj _|with_reducible refine Below.drew ?_)⟩):P:=h
theorem chg5 (B:Bk) (v:Wr) (a1 a2 a3:Option Addr) (c1 c2 c3:Nat) (o:Ob) (w:World) (hok:WOk B v) (hc:ObjsIn w 0 w.1.size a1 B.on B.os) (ho:fndOb B.os v.kind v.name B.on=o) (_hol:(o.hn:Int)≤5) (ht:fndIs B.os v.kind v.name B.on=true) (hop:¬v.op=1) (hop5:¬v.op=5) (hsv:v.seen=0∨(¬v.seen=0∧v.seen=o.ver)) (he:o.ending=true) :
  Calls Tryz.prog 75 #[.agg #[.int .i64 B.now,.int .i64 B.floor,.slice a1 B.on c1,.slice a2 B.hn c2,.slice a3 B.tn c3],.agg #[.int .i64 v.op,.string v.kind,.string v.name,.int .i64 v.seen,.string v.text,.string v.hold]] w fun e w'=>e=.returned (.tuple #[.agg #[.int .i64 0,.bool false,.string ⟨#[]⟩,.string ⟨#[]⟩,.int .i64 0,.int .i64 0,.string ⟨#[]⟩,.bool false,.slice none 0 0],.int .i64 5])∧Below w.1.size w w':=by
 have B3:∀ o1 o2 o3,Below w.1.size w (((w.alloc o1).alloc o2).alloc o3):=fun o1 o2 o3=>(((Below.refl _ _).alloc Zbt _).alloc Zd _).alloc Zc _
 have HB3:=hid B3
 have HOK:=hid hok
 have HC:=hid hc
 have HO:=hid ho
 have hn0:=hok.now0
 have hn1:=hok.now1
 have hon:(B.on:Int)≤100:=by have:=hok.on;omega
 clear hok hc ho B3
 have HT:=hid ht
 have HE:=hid he
 have hop1:(v.op==1)=false:=by simpa using hop
 have hop2:(v.op != 5)=true:=by simpa using hop5
 clear ht hop hop5 he
 have HSV:=hid hsv
 clear hsv
 go_enter Tryz.func75,Tryz.ntmps75
 go_wp2_with fail
 refine (specFind_any B.now B.floor B.on B.os a1 a2 a3 c1 B.hn c2 B.tn c3 v.kind v.name _ 0 w.1.size Zc Za HOK.out.fit.os (HC.out.below (HB3.out _ _ _) Zbt)).mono ?_
 rintro e w1 ⟨A,C,rfl,hcap,hst,hb1⟩
 rw [HO.out] at hcap hst
 rw [HO.out,HT.out]
 have z1:w.1.size+1+1<w1.1.size:=by have:=hb1.size;simp at this;omega
 have zA:w.1.size<w1.1.size:=Za
 have zB:w.1.size+1<w1.1.size:=Za
 obtain ⟨X0,X1,X2,Y1,Y2⟩:=three_cell hb1
 have b0:=X0 0
 have b1:=X0 1
 have b2:=X0 2
 have b3:=X0 3
 have b4:=X0 4
 have p0:=X1 0
 have p1:=X1 1
 have p2:=X1 2
 have p3:=X1 3
 have p4:=X1 4
 have p5:=X1 5
 have r0:=X2 0
 have r1:=X2 1
 have r2:=X2 2
 have r3:=X2 3
 have r4:=X2 4
 have r5:=X2 5
 have r6:=X2 6
 have r7:=X2 7
 have r8:=X2 8
 simp only [List.getElem?_toArray,List.getElem?_cons_succ,List.getElem?_cons_zero] at b0 b1 b2 b3 b4 p0 p1 p2 p3 p4 p5 r0 r1 r2 r3 r4 r5 r6 r7 r8
 have HB:=hid ((HB3.out _ _ _).trans (hb1.mono Zc))
 have HST:=hid hst
 clear X0 X1 X2 hb1 hst
 rw [HE.out]
 rcases HSV.out with hs|⟨hs0,hs⟩
 ·rw [hs] at p3
  clear hs
  exact apP306
 ·rw [hs] at p3
  have hsb:(o.ver != 0)=true:=by rw [←hs];simpa using hs0
  clear hs hs0
  exact apP306
theorem strs_keep {w1 w':World} {lo:Nat} {A:Option Addr} {n:Nat} {s:Nat→ByteArray} (h:StrsOwn w1 lo w1.1.size A n s) (hf:FrP (fun q=>q<lo) w1 w'):StrsIn w' 0 w'.1.size A n s:=fun i hi=>by
 obtain ⟨b,off,e1,e2,e3,e4,_⟩:=h i hi
 exact ⟨b,off,e1,Nat.zero_le _,Nat.lt_of_lt_of_le e3 hf.size,(hf.cell (p:=⟨b,off+i,none⟩) e3 (by show ¬b<lo;omega)).trans e4⟩
theorem one_strs {U:World} {a:ByteArray} {t:TypeId} {k:Nat} (h:k=U.1.size):StrsIn (U.alloc (.cells #[.string a] t)) 0 (U.alloc (.cells #[.string a] t)).1.size (some ⟨k,0,none⟩) 1 (fun _=>a):=fun i hi=>by
 subst h
 obtain rfl:i=0:=Za
 exact ⟨U.1.size,0,rfl,Nat.zero_le _,Zd,new_cell rfl⟩
def ChgP (B:Bk) (v:Wr) (w:World) (e:Ending) (w':World):Prop:=
 Below w.1.size w w'∧((¬wCode B v=0∧e=.returned (.tuple #[.agg #[.int .i64 0,.bool false,.string ⟨#[]⟩,.string ⟨#[]⟩,.int .i64 0,.int .i64 0,.string ⟨#[]⟩,.bool false,.slice none 0 0],.int .i64 (wCode B v)])) ∨
 (wCode B v=0∧∃ A C,e=.returned (.tuple #[.agg #[.int .i64 (wCh B v).ver,.bool (wCh B v).gone,.string (wCh B v).ob.kind,.string (wCh B v).ob.name,.int .i64 (wCh B v).ob.ver,.int .i64 (wCh B v).ob.born,.string (wCh B v).ob.text,.bool (wCh B v).ob.ending,.slice A (wCh B v).ob.hn C],.int .i64 0])∧StrsIn w' 0 w'.1.size A (wCh B v).ob.hn (wCh B v).ob.hs))
theorem apP301 {P:Prop} (h:P:=by
  have hcc:wCode B v=8:=by unfold wCode;rw [if_pos HOC.out,if_pos hm]
  have HFIN:=hid (show ∀ w',Below w.1.size w w'→ChgP B v w (.returned (.tuple #[.agg #[.int .i64 0,.bool false,.string ⟨#[]⟩,.string ⟨#[]⟩,.int .i64 0,.int .i64 0,.string ⟨#[]⟩,.bool false,.slice none 0 0],.int .i64 8])) w' from fun w' hb=>⟨hb,Or.inl ⟨by rw [hcc];decide,by rw [hcc]⟩⟩)
  clear hcc
  go_wp2
  refine bodyPost_ret (v:=.tuple #[.agg #[.int .i64 0,.bool false,.string ⟨#[]⟩,.string ⟨#[]⟩,.int .i64 0,.int .i64 0,.string ⟨#[]⟩,.bool false,.slice none 0 0],.int .i64 8]) Zr rfl (HFIN.out _ (by repeat (first|with_reducible exact HB.out|with_reducible refine Below.setCell ?_ Zj _|with_reducible refine Below.alloc ?_ Zj _|with_reducible refine Below.drew ?_)))):P:=h
theorem apP304 {P:Prop} (h:P:=by
  by_cases hm:1000000≤B.now
  ·exact apP301
  ·have hcc:wCode B v=0:=by unfold wCode;rw [if_pos HOC.out,if_neg hm]
   have HCC:=hid hcc
   have hm2:B.now<1000000:=Za
   clear hcc hm
   go_wp2
   refine bodyPost_ret (v:=.tuple #[.agg #[.int .i64 (B.now+1),.bool false,.string o.kind,.string o.name,.int .i64 (B.now+1),.int .i64 o.born,.string v.text,.bool false,.slice A o.hn C],.int .i64 0]) Zr rfl ⟨by repeat (first|with_reducible exact HB.out|with_reducible refine Below.setCell ?_ Zj _|with_reducible refine Below.alloc ?_ Zj _|with_reducible refine Below.drew ?_),Or.inr ⟨HCC.out,A,C,?_,?_⟩⟩
   ·rw [HV.out]
   ·rw [HN.out]
    exact strs_keep HST.out (by repeat (first|with_reducible exact FrP.refl _ _|with_reducible refine FrP.setNew ?_ (by (show _≤_∨_<_);simp only [];omega) _|with_reducible refine FrP.trans ?_ (FrP.of_below Zbu)))):P:=h
theorem chg_2 (B:Bk) (v:Wr) (a1 a2 a3:Option Addr) (c1 c2 c3:Nat) (o:Ob) (w:World) (hok:WOk B v) (hc:ObjsIn w 0 w.1.size a1 B.on B.os) (ho:fndOb B.os v.kind v.name B.on=o) (_hol:(o.hn:Int)≤5) (ht:fndIs B.os v.kind v.name B.on=true) (hop:v.op=2) (hoc:oCode B v=0) (hsv:v.seen=0∨(¬v.seen=0∧v.seen=o.ver)) (he:o.ending=false) (hv:∀ (A:Option Addr) (C:Nat),(.agg #[.int .i64 (B.now+1),.bool false,.string o.kind,.string o.name,.int .i64 (B.now+1),.int .i64 o.born,.string v.text,.bool false,.slice A o.hn C]:Value)=.agg #[.int .i64 (wCh B v).ver,.bool (wCh B v).gone,.string (wCh B v).ob.kind,.string (wCh B v).ob.name,.int .i64 (wCh B v).ob.ver,.int .i64 (wCh B v).ob.born,.string (wCh B v).ob.text,.bool (wCh B v).ob.ending,.slice A (wCh B v).ob.hn C]) (hh:∀ (W:World) (A:Option Addr),StrsIn W 0 W.1.size A (wCh B v).ob.hn (wCh B v).ob.hs=StrsIn W 0 W.1.size A (o.hn) (o.hs)) :
  Calls Tryz.prog 75 #[.agg #[.int .i64 B.now,.int .i64 B.floor,.slice a1 B.on c1,.slice a2 B.hn c2,.slice a3 B.tn c3],.agg #[.int .i64 v.op,.string v.kind,.string v.name,.int .i64 v.seen,.string v.text,.string v.hold]] w fun e w'=>ChgP B v w e w':=by
 have B3:∀ o1 o2 o3,Below w.1.size w (((w.alloc o1).alloc o2).alloc o3):=fun o1 o2 o3=>(((Below.refl _ _).alloc Zbt _).alloc Zd _).alloc Zc _
 have HB3:=hid B3
 have HOK:=hid hok
 have HC:=hid hc
 have HO:=hid ho
 have hn0:=hok.now0
 have hn1:=hok.now1
 have hon:(B.on:Int)≤100:=by have:=hok.on;omega
 have HON:=hid hon
 clear hok hc ho B3
 have HT:=hid ht
 have HOP:=hid hop
 have HOC:=hid hoc
 have HV:=hid hv
 have HN:=hid hh
 clear ht hop hoc hv hh
 have HE:=hid he
 clear he
 have HSV:=hid hsv
 clear hsv
 go_enter Tryz.func75,Tryz.ntmps75
 go_wp2_with fail
 refine (specFind_any B.now B.floor B.on B.os a1 a2 a3 c1 B.hn c2 B.tn c3 v.kind v.name _ 0 w.1.size Zc Zax HOK.out.fit.os (HC.out.below (HB3.out _ _ _) Zbt)).mono ?_
 rintro e w1 ⟨A,C,rfl,hcap,hst,hb1⟩
 rw [HO.out] at hcap hst
 rw [HO.out,HT.out]
 have z1:w.1.size+1+1<w1.1.size:=by have:=hb1.size;simp at this;omega
 have zA:w.1.size<w1.1.size:=Za
 have zB:w.1.size+1<w1.1.size:=Za
 have zA2:w.1.size<w1.1.size+1:=Za
 have zA3:w.1.size<w1.1.size+1+1:=Za
 have zB2:w.1.size+1<w1.1.size+1:=Za
 have zB3:w.1.size+1<w1.1.size+1+1:=Za
 have zC2:w.1.size+1+1<w1.1.size+1:=Za
 have zC3:w.1.size+1+1<w1.1.size+1+1:=Za
 obtain ⟨X0,X1,X2,Y1,Y2⟩:=three_cell hb1
 have b0:=X0 0
 have b1:=X0 1
 have b2:=X0 2
 have b3:=X0 3
 have b4:=X0 4
 have p0:=X1 0
 have p1:=X1 1
 have p2:=X1 2
 have p3:=X1 3
 have p4:=X1 4
 have p5:=X1 5
 have r0:=X2 0
 have r1:=X2 1
 have r2:=X2 2
 have r3:=X2 3
 have r4:=X2 4
 have r5:=X2 5
 have r6:=X2 6
 have r7:=X2 7
 have r8:=X2 8
 simp only [List.getElem?_toArray,List.getElem?_cons_succ,List.getElem?_cons_zero] at b0 b1 b2 b3 b4 p0 p1 p2 p3 p4 p5 r0 r1 r2 r3 r4 r5 r6 r7 r8
 have HB:=hid ((HB3.out _ _ _).trans (hb1.mono Zc))
 have HST:=hid hst
 clear X0 X1 X2 hb1 hst
 have hw:IntKind.i64.wrap (B.now+1)=B.now+1:=IntWalk.i64_in _ ⟨Za,Za⟩
 simp only [World.size_alloc] at HST
 rw [HOP.out] at p0
 rw [HE.out]
 rcases HSV.out with hs|⟨hs0,hs⟩
 ·rw [hs] at p3
  clear hs
  exact apP304
 ·rw [hs] at p3
  have hsb:(o.ver != 0)=true:=by rw [←hs];simpa using hs0
  clear hs hs0
  exact apP304
theorem apP303 {P:Prop} (h:P:=by
  by_cases hm:1000000≤B.now
  ·exact apP301
  ·have hcc:wCode B v=0:=by unfold wCode;rw [if_pos HOC.out,if_neg hm]
   have HCC:=hid hcc
   have hm2:B.now<1000000:=Za
   clear hcc hm
   go_wp2
   refine bodyPost_ret (v:=.tuple #[.agg #[.int .i64 (B.now+1),.bool ((o.hn:Int)==0),.string o.kind,.string o.name,.int .i64 (B.now+1),.int .i64 o.born,.string o.text,.bool true,.slice A o.hn C],.int .i64 0]) Zr rfl ⟨by repeat (first|with_reducible exact HB.out|with_reducible refine Below.setCell ?_ Zj _|with_reducible refine Below.alloc ?_ Zj _|with_reducible refine Below.drew ?_),Or.inr ⟨HCC.out,A,C,?_,?_⟩⟩
   ·rw [HV.out]
   ·rw [HN.out]
    exact strs_keep HST.out (by repeat (first|with_reducible exact FrP.refl _ _|with_reducible refine FrP.setNew ?_ (by (show _≤_∨_<_);simp only [];omega) _|with_reducible refine FrP.trans ?_ (FrP.of_below Zbu)))):P:=h
theorem chg_3 (B:Bk) (v:Wr) (a1 a2 a3:Option Addr) (c1 c2 c3:Nat) (o:Ob) (w:World) (hok:WOk B v) (hc:ObjsIn w 0 w.1.size a1 B.on B.os) (ho:fndOb B.os v.kind v.name B.on=o) (_hol:(o.hn:Int)≤5) (ht:fndIs B.os v.kind v.name B.on=true) (hop:v.op=3) (hoc:oCode B v=0) (hsv:v.seen=0∨(¬v.seen=0∧v.seen=o.ver)) (he:o.ending=false) (hv:∀ (A:Option Addr) (C:Nat),(.agg #[.int .i64 (B.now+1),.bool ((o.hn:Int)==0),.string o.kind,.string o.name,.int .i64 (B.now+1),.int .i64 o.born,.string o.text,.bool true,.slice A o.hn C]:Value)=.agg #[.int .i64 (wCh B v).ver,.bool (wCh B v).gone,.string (wCh B v).ob.kind,.string (wCh B v).ob.name,.int .i64 (wCh B v).ob.ver,.int .i64 (wCh B v).ob.born,.string (wCh B v).ob.text,.bool (wCh B v).ob.ending,.slice A (wCh B v).ob.hn C]) (hh:∀ (W:World) (A:Option Addr),StrsIn W 0 W.1.size A (wCh B v).ob.hn (wCh B v).ob.hs=StrsIn W 0 W.1.size A (o.hn) (o.hs)) :
  Calls Tryz.prog 75 #[.agg #[.int .i64 B.now,.int .i64 B.floor,.slice a1 B.on c1,.slice a2 B.hn c2,.slice a3 B.tn c3],.agg #[.int .i64 v.op,.string v.kind,.string v.name,.int .i64 v.seen,.string v.text,.string v.hold]] w fun e w'=>ChgP B v w e w':=by
 have B3:∀ o1 o2 o3,Below w.1.size w (((w.alloc o1).alloc o2).alloc o3):=fun o1 o2 o3=>(((Below.refl _ _).alloc Zbt _).alloc Zd _).alloc Zc _
 have HB3:=hid B3
 have HOK:=hid hok
 have HC:=hid hc
 have HO:=hid ho
 have hn0:=hok.now0
 have hn1:=hok.now1
 have hon:(B.on:Int)≤100:=by have:=hok.on;omega
 have HON:=hid hon
 clear hok hc ho B3
 have HT:=hid ht
 have HOP:=hid hop
 have HOC:=hid hoc
 have HV:=hid hv
 have HN:=hid hh
 clear ht hop hoc hv hh
 have HE:=hid he
 clear he
 have HSV:=hid hsv
 clear hsv
 go_enter Tryz.func75,Tryz.ntmps75
 go_wp2_with fail
 refine (specFind_any B.now B.floor B.on B.os a1 a2 a3 c1 B.hn c2 B.tn c3 v.kind v.name _ 0 w.1.size Zc Zax HOK.out.fit.os (HC.out.below (HB3.out _ _ _) Zbt)).mono ?_
 rintro e w1 ⟨A,C,rfl,hcap,hst,hb1⟩
 rw [HO.out] at hcap hst
 rw [HO.out,HT.out]
 have z1:w.1.size+1+1<w1.1.size:=by have:=hb1.size;simp at this;omega
 have zA:w.1.size<w1.1.size:=Za
 have zB:w.1.size+1<w1.1.size:=Za
 have zA2:w.1.size<w1.1.size+1:=Za
 have zA3:w.1.size<w1.1.size+1+1:=Za
 have zB2:w.1.size+1<w1.1.size+1:=Za
 have zB3:w.1.size+1<w1.1.size+1+1:=Za
 have zC2:w.1.size+1+1<w1.1.size+1:=Za
 have zC3:w.1.size+1+1<w1.1.size+1+1:=Za
 obtain ⟨X0,X1,X2,Y1,Y2⟩:=three_cell hb1
 have b0:=X0 0
 have b1:=X0 1
 have b2:=X0 2
 have b3:=X0 3
 have b4:=X0 4
 have p0:=X1 0
 have p1:=X1 1
 have p2:=X1 2
 have p3:=X1 3
 have p4:=X1 4
 have p5:=X1 5
 have r0:=X2 0
 have r1:=X2 1
 have r2:=X2 2
 have r3:=X2 3
 have r4:=X2 4
 have r5:=X2 5
 have r6:=X2 6
 have r7:=X2 7
 have r8:=X2 8
 simp only [List.getElem?_toArray,List.getElem?_cons_succ,List.getElem?_cons_zero] at b0 b1 b2 b3 b4 p0 p1 p2 p3 p4 p5 r0 r1 r2 r3 r4 r5 r6 r7 r8
 have HB:=hid ((HB3.out _ _ _).trans (hb1.mono Zc))
 have HST:=hid hst
 clear X0 X1 X2 hb1 hst
 have hw:IntKind.i64.wrap (B.now+1)=B.now+1:=IntWalk.i64_in _ ⟨Za,Za⟩
 simp only [World.size_alloc] at HST
 rw [HOP.out] at p0
 rw [HE.out]
 rcases HSV.out with hs|⟨hs0,hs⟩
 ·rw [hs] at p3
  clear hs
  exact apP303
 ·rw [hs] at p3
  have hsb:(o.ver != 0)=true:=by rw [←hs];simpa using hs0
  clear hs hs0
  exact apP303
theorem chg_1e (B:Bk) (v:Wr) (a1 a2 a3:Option Addr) (c1 c2 c3:Nat) (o:Ob) (w:World) (hok:WOk B v) (hc:ObjsIn w 0 w.1.size a1 B.on B.os) (ho:fndOb B.os v.kind v.name B.on=o) (_hol:(o.hn:Int)≤5) (ht:fndIs B.os v.kind v.name B.on=false) (hop:v.op=1) (hoc:oCode B v=0) (hs:v.seen=0) (he:o.ending=false) (hh0:v.hold=⟨#[]⟩) (h100:¬100≤B.on) (hv:(.agg #[.int .i64 (B.now+1),.bool false,.string v.kind,.string v.name,.int .i64 (B.now+1),.int .i64 (B.now+1),.string v.text,.bool false,.slice none 0 0]:Value)=.agg #[.int .i64 (wCh B v).ver,.bool (wCh B v).gone,.string (wCh B v).ob.kind,.string (wCh B v).ob.name,.int .i64 (wCh B v).ob.ver,.int .i64 (wCh B v).ob.born,.string (wCh B v).ob.text,.bool (wCh B v).ob.ending,.slice none (wCh B v).ob.hn 0]) (hh:∀ (W:World) (A:Option Addr),StrsIn W 0 W.1.size A (wCh B v).ob.hn (wCh B v).ob.hs=StrsIn W 0 W.1.size A (0) (fun _=>v.hold)) :
  Calls Tryz.prog 75 #[.agg #[.int .i64 B.now,.int .i64 B.floor,.slice a1 B.on c1,.slice a2 B.hn c2,.slice a3 B.tn c3],.agg #[.int .i64 v.op,.string v.kind,.string v.name,.int .i64 v.seen,.string v.text,.string v.hold]] w fun e w'=>ChgP B v w e w':=by
 have B3:∀ o1 o2 o3,Below w.1.size w (((w.alloc o1).alloc o2).alloc o3):=fun o1 o2 o3=>(((Below.refl _ _).alloc Zbt _).alloc Zd _).alloc Zc _
 have HB3:=hid B3
 have HOK:=hid hok
 have HC:=hid hc
 have HO:=hid ho
 have hn0:=hok.now0
 have hn1:=hok.now1
 have hon:(B.on:Int)≤100:=by have:=hok.on;omega
 have HON:=hid hon
 clear hok hc ho B3
 have HT:=hid ht
 have HOP:=hid hop
 have HOC:=hid hoc
 have HV:=hid hv
 have HN:=hid hh
 clear ht hop hoc hv hh
 have HE:=hid he
 have HS:=hid hs
 have HH:=hid hh0
 have h100i:(B.on:Int)<100:=Za
 clear he hs hh0 h100 hon
 go_enter Tryz.func75,Tryz.ntmps75
 go_wp2_with fail
 refine (specFind_any B.now B.floor B.on B.os a1 a2 a3 c1 B.hn c2 B.tn c3 v.kind v.name _ 0 w.1.size Zc Zax HOK.out.fit.os (HC.out.below (HB3.out _ _ _) Zbt)).mono ?_
 rintro e w1 ⟨A,C,rfl,hcap,hst,hb1⟩
 rw [HO.out] at hcap hst
 rw [HO.out,HT.out]
 have z1:w.1.size+1+1<w1.1.size:=by have:=hb1.size;simp at this;omega
 have zA:w.1.size<w1.1.size:=Za
 have zB:w.1.size+1<w1.1.size:=Za
 have zA2:w.1.size<w1.1.size+1:=Za
 have zA3:w.1.size<w1.1.size+1+1:=Za
 have zB2:w.1.size+1<w1.1.size+1:=Za
 have zB3:w.1.size+1<w1.1.size+1+1:=Za
 have zC2:w.1.size+1+1<w1.1.size+1:=Za
 have zC3:w.1.size+1+1<w1.1.size+1+1:=Za
 obtain ⟨X0,X1,X2,Y1,Y2⟩:=three_cell hb1
 have b0:=X0 0
 have b1:=X0 1
 have b2:=X0 2
 have b3:=X0 3
 have b4:=X0 4
 have p0:=X1 0
 have p1:=X1 1
 have p2:=X1 2
 have p3:=X1 3
 have p4:=X1 4
 have p5:=X1 5
 have r0:=X2 0
 have r1:=X2 1
 have r2:=X2 2
 have r3:=X2 3
 have r4:=X2 4
 have r5:=X2 5
 have r6:=X2 6
 have r7:=X2 7
 have r8:=X2 8
 simp only [List.getElem?_toArray,List.getElem?_cons_succ,List.getElem?_cons_zero] at b0 b1 b2 b3 b4 p0 p1 p2 p3 p4 p5 r0 r1 r2 r3 r4 r5 r6 r7 r8
 have HB:=hid ((HB3.out _ _ _).trans (hb1.mono Zc))
 have HST:=hid hst
 clear X0 X1 X2 hb1 hst
 have hw:IntKind.i64.wrap (B.now+1)=B.now+1:=IntWalk.i64_in _ ⟨Za,Za⟩
 simp only [World.size_alloc] at HST
 rw [HOP.out] at p0
 rw [HE.out]
 rw [HS.out] at p3
 rw [HH.out] at p5
 by_cases hm:1000000≤B.now
 ·exact apP301
 ·have hcc:wCode B v=0:=by unfold wCode;rw [if_pos HOC.out,if_neg hm]
  have HCC:=hid hcc
  have hm2:B.now<1000000:=Za
  clear hcc hm
  go_wp2
  refine bodyPost_ret (v:=.tuple #[.agg #[.int .i64 (B.now+1),.bool false,.string v.kind,.string v.name,.int .i64 (B.now+1),.int .i64 (B.now+1),.string v.text,.bool false,.slice none 0 0],.int .i64 0]) Zr rfl ⟨by repeat (first|with_reducible exact HB.out|with_reducible refine Below.setCell ?_ Zj _|with_reducible refine Below.alloc ?_ Zj _|with_reducible refine Below.drew ?_),Or.inr ⟨HCC.out,none,0,?_,?_⟩⟩
  ·rw [HV.out]
  ·rw [HN.out]
   exact (fun i hi=>absurd hi (Nat.not_lt_zero _))
theorem chg_1h (B:Bk) (v:Wr) (a1 a2 a3:Option Addr) (c1 c2 c3:Nat) (o:Ob) (w:World) (hok:WOk B v) (hc:ObjsIn w 0 w.1.size a1 B.on B.os) (ho:fndOb B.os v.kind v.name B.on=o) (_hol:(o.hn:Int)≤5) (ht:fndIs B.os v.kind v.name B.on=false) (hop:v.op=1) (hoc:oCode B v=0) (hs:v.seen=0) (he:o.ending=false) (hh0:¬v.hold=⟨#[]⟩) (h100:¬100≤B.on) (hv:∀ (A:Option Addr) (C:Nat),(.agg #[.int .i64 (B.now+1),.bool false,.string v.kind,.string v.name,.int .i64 (B.now+1),.int .i64 (B.now+1),.string v.text,.bool false,.slice A 1 C]:Value)=.agg #[.int .i64 (wCh B v).ver,.bool (wCh B v).gone,.string (wCh B v).ob.kind,.string (wCh B v).ob.name,.int .i64 (wCh B v).ob.ver,.int .i64 (wCh B v).ob.born,.string (wCh B v).ob.text,.bool (wCh B v).ob.ending,.slice A (wCh B v).ob.hn C]) (hh:∀ (W:World) (A:Option Addr),StrsIn W 0 W.1.size A (wCh B v).ob.hn (wCh B v).ob.hs=StrsIn W 0 W.1.size A (1) (fun _=>v.hold)) :
  Calls Tryz.prog 75 #[.agg #[.int .i64 B.now,.int .i64 B.floor,.slice a1 B.on c1,.slice a2 B.hn c2,.slice a3 B.tn c3],.agg #[.int .i64 v.op,.string v.kind,.string v.name,.int .i64 v.seen,.string v.text,.string v.hold]] w fun e w'=>ChgP B v w e w':=by
 have B3:∀ o1 o2 o3,Below w.1.size w (((w.alloc o1).alloc o2).alloc o3):=fun o1 o2 o3=>(((Below.refl _ _).alloc Zbt _).alloc Zd _).alloc Zc _
 have HB3:=hid B3
 have HOK:=hid hok
 have HC:=hid hc
 have HO:=hid ho
 have hn0:=hok.now0
 have hn1:=hok.now1
 have hon:(B.on:Int)≤100:=by have:=hok.on;omega
 have HON:=hid hon
 clear hok hc ho B3
 have HT:=hid ht
 have HOP:=hid hop
 have HOC:=hid hoc
 have HV:=hid hv
 have HN:=hid hh
 clear ht hop hoc hv hh
 have HE:=hid he
 have HS:=hid hs
 have hhe:v.hold.toList.isEmpty=false:=by simpa using em_list hh0
 have h100i:(B.on:Int)<100:=Za
 clear he hs hh0 h100 hon
 go_enter Tryz.func75,Tryz.ntmps75
 go_wp2_with fail
 refine (specFind_any B.now B.floor B.on B.os a1 a2 a3 c1 B.hn c2 B.tn c3 v.kind v.name _ 0 w.1.size Zc Zax HOK.out.fit.os (HC.out.below (HB3.out _ _ _) Zbt)).mono ?_
 rintro e w1 ⟨A,C,rfl,hcap,hst,hb1⟩
 rw [HO.out] at hcap hst
 rw [HO.out,HT.out]
 have z1:w.1.size+1+1<w1.1.size:=by have:=hb1.size;simp at this;omega
 have zA:w.1.size<w1.1.size:=Za
 have zB:w.1.size+1<w1.1.size:=Za
 have zA2:w.1.size<w1.1.size+1:=Za
 have zA3:w.1.size<w1.1.size+1+1:=Za
 have zB2:w.1.size+1<w1.1.size+1:=Za
 have zB3:w.1.size+1<w1.1.size+1+1:=Za
 have zC2:w.1.size+1+1<w1.1.size+1:=Za
 have zC3:w.1.size+1+1<w1.1.size+1+1:=Za
 obtain ⟨X0,X1,X2,Y1,Y2⟩:=three_cell hb1
 have b0:=X0 0
 have b1:=X0 1
 have b2:=X0 2
 have b3:=X0 3
 have b4:=X0 4
 have p0:=X1 0
 have p1:=X1 1
 have p2:=X1 2
 have p3:=X1 3
 have p4:=X1 4
 have p5:=X1 5
 have r0:=X2 0
 have r1:=X2 1
 have r2:=X2 2
 have r3:=X2 3
 have r4:=X2 4
 have r5:=X2 5
 have r6:=X2 6
 have r7:=X2 7
 have r8:=X2 8
 simp only [List.getElem?_toArray,List.getElem?_cons_succ,List.getElem?_cons_zero] at b0 b1 b2 b3 b4 p0 p1 p2 p3 p4 p5 r0 r1 r2 r3 r4 r5 r6 r7 r8
 have HB:=hid ((HB3.out _ _ _).trans (hb1.mono Zc))
 have HST:=hid hst
 clear X0 X1 X2 hb1 hst
 have hw:IntKind.i64.wrap (B.now+1)=B.now+1:=IntWalk.i64_in _ ⟨Za,Za⟩
 simp only [World.size_alloc] at HST
 rw [HOP.out] at p0
 rw [HE.out]
 rw [HS.out] at p3
 by_cases hm:1000000≤B.now
 ·have hcc:wCode B v=8:=by unfold wCode;rw [if_pos HOC.out,if_pos hm]
  have HFIN:=hid (show ∀ w',Below w.1.size w w'→ChgP B v w (.returned (.tuple #[.agg #[.int .i64 0,.bool false,.string ⟨#[]⟩,.string ⟨#[]⟩,.int .i64 0,.int .i64 0,.string ⟨#[]⟩,.bool false,.slice none 0 0],.int .i64 8])) w' from fun w' hb=>⟨hb,Or.inl ⟨by rw [hcc];decide,by rw [hcc]⟩⟩)
  clear hcc
  go_wp2
  refine bodyPost_ret (v:=.tuple #[.agg #[.int .i64 0,.bool false,.string ⟨#[]⟩,.string ⟨#[]⟩,.int .i64 0,.int .i64 0,.string ⟨#[]⟩,.bool false,.slice none 0 0],.int .i64 8]) Zal rfl (HFIN.out _ (by repeat (first|with_reducible exact HB.out|with_reducible refine Below.setCell ?_ Zj _|with_reducible refine Below.alloc ?_ Zj _|with_reducible refine Below.drew ?_)))
 ·have hcc:wCode B v=0:=by unfold wCode;rw [if_pos HOC.out,if_neg hm]
  have HCC:=hid hcc
  have hm2:B.now<1000000:=Za
  clear hcc hm
  go_wp2
  refine bodyPost_ret (v:=.tuple #[.agg #[.int .i64 (B.now+1),.bool false,.string v.kind,.string v.name,.int .i64 (B.now+1),.int .i64 (B.now+1),.string v.text,.bool false,.slice (some ⟨w1.1.size+1+1,0,none⟩) 1 1],.int .i64 0]) Zal rfl ⟨by repeat (first|with_reducible exact HB.out|with_reducible refine Below.setCell ?_ Zj _|with_reducible refine Below.alloc ?_ Zj _|with_reducible refine Below.drew ?_),Or.inr ⟨HCC.out,(some ⟨w1.1.size+1+1,0,none⟩),1,?_,?_⟩⟩
  ·rw [HV.out]
  ·rw [HN.out]
   exact (one_strs Zd)
theorem apP302 {P:Prop} (h:P:=by
  go_wp2
  refine bodyPost_ret (v:=.tuple #[.agg #[.int .i64 0,.bool false,.string ⟨#[]⟩,.string ⟨#[]⟩,.int .i64 0,.int .i64 0,.string ⟨#[]⟩,.bool false,.slice none 0 0],.int .i64 7]) Zr rfl ⟨rfl,by repeat (first|with_reducible exact HB.out|with_reducible refine Below.setCell ?_ Zj _|with_reducible refine Below.alloc ?_ Zj _|with_reducible refine Below.drew ?_)⟩):P:=h
theorem chg_1f (B:Bk) (v:Wr) (a1 a2 a3:Option Addr) (c1 c2 c3:Nat) (o:Ob) (w:World) (hok:WOk B v) (hc:ObjsIn w 0 w.1.size a1 B.on B.os) (ho:fndOb B.os v.kind v.name B.on=o) (_hol:(o.hn:Int)≤5) (ht:fndIs B.os v.kind v.name B.on=false) (hop:v.op=1) (hs:v.seen=0) (he:o.ending=false) (h100:100≤B.on) :
  Calls Tryz.prog 75 #[.agg #[.int .i64 B.now,.int .i64 B.floor,.slice a1 B.on c1,.slice a2 B.hn c2,.slice a3 B.tn c3],.agg #[.int .i64 v.op,.string v.kind,.string v.name,.int .i64 v.seen,.string v.text,.string v.hold]] w fun e w'=>e=.returned (.tuple #[.agg #[.int .i64 0,.bool false,.string ⟨#[]⟩,.string ⟨#[]⟩,.int .i64 0,.int .i64 0,.string ⟨#[]⟩,.bool false,.slice none 0 0],.int .i64 7])∧Below w.1.size w w':=by
 have B3:∀ o1 o2 o3,Below w.1.size w (((w.alloc o1).alloc o2).alloc o3):=fun o1 o2 o3=>(((Below.refl _ _).alloc Zbt _).alloc Zd _).alloc Zc _
 have HB3:=hid B3
 have HOK:=hid hok
 have HC:=hid hc
 have HO:=hid ho
 have hn0:=hok.now0
 have hn1:=hok.now1
 have hon:(B.on:Int)≤100:=by have:=hok.on;omega
 have HON:=hid hon
 clear hok hc ho B3
 have HT:=hid ht
 have HOP:=hid hop
 have HE:=hid he
 have HS:=hid hs
 have h100i:(100:Int)≤B.on:=Za
 clear ht hop he hs h100 hon
 go_enter Tryz.func75,Tryz.ntmps75
 go_wp2_with fail
 refine (specFind_any B.now B.floor B.on B.os a1 a2 a3 c1 B.hn c2 B.tn c3 v.kind v.name _ 0 w.1.size Zc Zax HOK.out.fit.os (HC.out.below (HB3.out _ _ _) Zbt)).mono ?_
 rintro e w1 ⟨A,C,rfl,hcap,hst,hb1⟩
 rw [HO.out] at hcap hst
 rw [HO.out,HT.out]
 have z1:w.1.size+1+1<w1.1.size:=by have:=hb1.size;simp at this;omega
 have zA:w.1.size<w1.1.size:=Za
 have zB:w.1.size+1<w1.1.size:=Za
 have zA2:w.1.size<w1.1.size+1:=Za
 have zA3:w.1.size<w1.1.size+1+1:=Za
 have zB2:w.1.size+1<w1.1.size+1:=Za
 have zB3:w.1.size+1<w1.1.size+1+1:=Za
 have zC2:w.1.size+1+1<w1.1.size+1:=Za
 have zC3:w.1.size+1+1<w1.1.size+1+1:=Za
 obtain ⟨X0,X1,X2,Y1,Y2⟩:=three_cell hb1
 have b0:=X0 0
 have b1:=X0 1
 have b2:=X0 2
 have b3:=X0 3
 have b4:=X0 4
 have p0:=X1 0
 have p1:=X1 1
 have p2:=X1 2
 have p3:=X1 3
 have p4:=X1 4
 have p5:=X1 5
 have r0:=X2 0
 have r1:=X2 1
 have r2:=X2 2
 have r3:=X2 3
 have r4:=X2 4
 have r5:=X2 5
 have r6:=X2 6
 have r7:=X2 7
 have r8:=X2 8
 simp only [List.getElem?_toArray,List.getElem?_cons_succ,List.getElem?_cons_zero] at b0 b1 b2 b3 b4 p0 p1 p2 p3 p4 p5 r0 r1 r2 r3 r4 r5 r6 r7 r8
 have HB:=hid ((HB3.out _ _ _).trans (hb1.mono Zc))
 have HST:=hid hst
 clear X0 X1 X2 hb1 hst
 have hw:IntKind.i64.wrap (B.now+1)=B.now+1:=IntWalk.i64_in _ ⟨Za,Za⟩
 rw [HOP.out] at p0
 rw [HE.out]
 rw [HS.out] at p3
 by_cases hhe:v.hold.toList.isEmpty=true
 ·exact apP302
 ·have hhe':v.hold.toList.isEmpty=false:=by simpa using hhe
  clear hhe
  go_wp2
  refine bodyPost_ret (v:=.tuple #[.agg #[.int .i64 0,.bool false,.string ⟨#[]⟩,.string ⟨#[]⟩,.int .i64 0,.int .i64 0,.string ⟨#[]⟩,.bool false,.slice none 0 0],.int .i64 7]) Zal rfl ⟨rfl,by repeat (first|with_reducible exact HB.out|with_reducible refine Below.setCell ?_ Zj _|with_reducible refine Below.alloc ?_ Zj _|with_reducible refine Below.drew ?_)⟩
theorem apP300 {P:Prop} (h:P:=by
  go_wp2_with fail
  refine (l2Has_any o.hn o.hs A C v.hold _ 0 _ Za (strs_keep HST.out Zg)).mono ?_
  rintro e w2 ⟨rfl,rfl⟩
  rw [HH.out]
  go_wp2
  refine bodyPost_ret (v:=.tuple #[.agg #[.int .i64 0,.bool false,.string ⟨#[]⟩,.string ⟨#[]⟩,.int .i64 0,.int .i64 0,.string ⟨#[]⟩,.bool false,.slice none 0 0],.int .i64 6]) Zr rfl ⟨rfl,by repeat (first|with_reducible exact HB.out|with_reducible refine Below.setCell ?_ Zj _|with_reducible refine Below.alloc ?_ Zj _|with_reducible refine Below.drew ?_)⟩):P:=h
theorem apP308 {P:Prop} (h:P:=by
  rcases HSV.out with hs|⟨hs0,hs⟩
  ·rw [hs] at p3
   clear hs
   exact apP300
  ·rw [hs] at p3
   have hsb:(o.ver != 0)=true:=by rw [←hs];simpa using hs0
   clear hs hs0
   exact apP300):P:=h
theorem chg_4h (B:Bk) (v:Wr) (a1 a2 a3:Option Addr) (c1 c2 c3:Nat) (o:Ob) (w:World) (hok:WOk B v) (hc:ObjsIn w 0 w.1.size a1 B.on B.os) (ho:fndOb B.os v.kind v.name B.on=o) (hol:(o.hn:Int)≤5) (ht:fndIs B.os v.kind v.name B.on=true) (hop:v.op=4) (hsv:v.seen=0∨(¬v.seen=0∧v.seen=o.ver)) (he:o.ending=false) (hh:hasB o.hn o.hs v.hold=true) :
  Calls Tryz.prog 75 #[.agg #[.int .i64 B.now,.int .i64 B.floor,.slice a1 B.on c1,.slice a2 B.hn c2,.slice a3 B.tn c3],.agg #[.int .i64 v.op,.string v.kind,.string v.name,.int .i64 v.seen,.string v.text,.string v.hold]] w fun e w'=>e=.returned (.tuple #[.agg #[.int .i64 0,.bool false,.string ⟨#[]⟩,.string ⟨#[]⟩,.int .i64 0,.int .i64 0,.string ⟨#[]⟩,.bool false,.slice none 0 0],.int .i64 6])∧Below w.1.size w w':=by
 have B3:∀ o1 o2 o3,Below w.1.size w (((w.alloc o1).alloc o2).alloc o3):=fun o1 o2 o3=>(((Below.refl _ _).alloc Zbt _).alloc Zd _).alloc Zc _
 have HB3:=hid B3
 have HOK:=hid hok
 have HC:=hid hc
 have HO:=hid ho
 have hn0:=hok.now0
 have hn1:=hok.now1
 have hon:(B.on:Int)≤100:=by have:=hok.on;omega
 have HON:=hid hon
 clear hok hc ho B3
 have HT:=hid ht
 have HOP:=hid hop
 clear ht hop
 have HE:=hid he
 clear he
 have HSV:=hid hsv
 clear hsv
 have HH:=hid hh
 clear hh
 go_enter Tryz.func75,Tryz.ntmps75
 go_wp2_with fail
 refine (specFind_any B.now B.floor B.on B.os a1 a2 a3 c1 B.hn c2 B.tn c3 v.kind v.name _ 0 w.1.size Zc Zax HOK.out.fit.os (HC.out.below (HB3.out _ _ _) Zbt)).mono ?_
 rintro e w1 ⟨A,C,rfl,hcap,hst,hb1⟩
 rw [HO.out] at hcap hst
 rw [HO.out,HT.out]
 have z1:w.1.size+1+1<w1.1.size:=by have:=hb1.size;simp at this;omega
 have zA:w.1.size<w1.1.size:=Za
 have zB:w.1.size+1<w1.1.size:=Za
 have zA2:w.1.size<w1.1.size+1:=Za
 have zA3:w.1.size<w1.1.size+1+1:=Za
 have zB2:w.1.size+1<w1.1.size+1:=Za
 have zB3:w.1.size+1<w1.1.size+1+1:=Za
 have zC2:w.1.size+1+1<w1.1.size+1:=Za
 have zC3:w.1.size+1+1<w1.1.size+1+1:=Za
 obtain ⟨X0,X1,X2,Y1,Y2⟩:=three_cell hb1
 have b0:=X0 0
 have b1:=X0 1
 have b2:=X0 2
 have b3:=X0 3
 have b4:=X0 4
 have p0:=X1 0
 have p1:=X1 1
 have p2:=X1 2
 have p3:=X1 3
 have p4:=X1 4
 have p5:=X1 5
 have r0:=X2 0
 have r1:=X2 1
 have r2:=X2 2
 have r3:=X2 3
 have r4:=X2 4
 have r5:=X2 5
 have r6:=X2 6
 have r7:=X2 7
 have r8:=X2 8
 simp only [List.getElem?_toArray,List.getElem?_cons_succ,List.getElem?_cons_zero] at b0 b1 b2 b3 b4 p0 p1 p2 p3 p4 p5 r0 r1 r2 r3 r4 r5 r6 r7 r8
 have HB:=hid ((HB3.out _ _ _).trans (hb1.mono Zc))
 have HST:=hid hst
 clear X0 X1 X2 hb1 hst
 have hw:IntKind.i64.wrap (B.now+1)=B.now+1:=IntWalk.i64_in _ ⟨Za,Za⟩
 simp only [World.size_alloc] at HST
 rw [HOP.out] at p0
 rw [HE.out]
 exact apP308
theorem apP307 {P:Prop} (h:P:=by
  go_wp2_with fail
  refine (l2Has_any o.hn o.hs A C v.hold _ 0 _ Za (strs_keep HST.out Zg)).mono ?_
  rintro e w2 ⟨rfl,rfl⟩
  rw [HH.out]
  exact apP302):P:=h
theorem chg_4f (B:Bk) (v:Wr) (a1 a2 a3:Option Addr) (c1 c2 c3:Nat) (o:Ob) (w:World) (hok:WOk B v) (hc:ObjsIn w 0 w.1.size a1 B.on B.os) (ho:fndOb B.os v.kind v.name B.on=o) (hol:(o.hn:Int)≤5) (ht:fndIs B.os v.kind v.name B.on=true) (hop:v.op=4) (hsv:v.seen=0∨(¬v.seen=0∧v.seen=o.ver)) (he:o.ending=false) (hh:hasB o.hn o.hs v.hold=false) (h5:(5:Int)≤o.hn) :
  Calls Tryz.prog 75 #[.agg #[.int .i64 B.now,.int .i64 B.floor,.slice a1 B.on c1,.slice a2 B.hn c2,.slice a3 B.tn c3],.agg #[.int .i64 v.op,.string v.kind,.string v.name,.int .i64 v.seen,.string v.text,.string v.hold]] w fun e w'=>e=.returned (.tuple #[.agg #[.int .i64 0,.bool false,.string ⟨#[]⟩,.string ⟨#[]⟩,.int .i64 0,.int .i64 0,.string ⟨#[]⟩,.bool false,.slice none 0 0],.int .i64 7])∧Below w.1.size w w':=by
 have B3:∀ o1 o2 o3,Below w.1.size w (((w.alloc o1).alloc o2).alloc o3):=fun o1 o2 o3=>(((Below.refl _ _).alloc Zbt _).alloc Zd _).alloc Zc _
 have HB3:=hid B3
 have HOK:=hid hok
 have HC:=hid hc
 have HO:=hid ho
 have hn0:=hok.now0
 have hn1:=hok.now1
 have hon:(B.on:Int)≤100:=by have:=hok.on;omega
 have HON:=hid hon
 clear hok hc ho B3
 have HT:=hid ht
 have HOP:=hid hop
 clear ht hop
 have HE:=hid he
 clear he
 have HSV:=hid hsv
 clear hsv
 have HH:=hid hh
 clear hh
 go_enter Tryz.func75,Tryz.ntmps75
 go_wp2_with fail
 refine (specFind_any B.now B.floor B.on B.os a1 a2 a3 c1 B.hn c2 B.tn c3 v.kind v.name _ 0 w.1.size Zc Zax HOK.out.fit.os (HC.out.below (HB3.out _ _ _) Zbt)).mono ?_
 rintro e w1 ⟨A,C,rfl,hcap,hst,hb1⟩
 rw [HO.out] at hcap hst
 rw [HO.out,HT.out]
 have z1:w.1.size+1+1<w1.1.size:=by have:=hb1.size;simp at this;omega
 have zA:w.1.size<w1.1.size:=Za
 have zB:w.1.size+1<w1.1.size:=Za
 have zA2:w.1.size<w1.1.size+1:=Za
 have zA3:w.1.size<w1.1.size+1+1:=Za
 have zB2:w.1.size+1<w1.1.size+1:=Za
 have zB3:w.1.size+1<w1.1.size+1+1:=Za
 have zC2:w.1.size+1+1<w1.1.size+1:=Za
 have zC3:w.1.size+1+1<w1.1.size+1+1:=Za
 obtain ⟨X0,X1,X2,Y1,Y2⟩:=three_cell hb1
 have b0:=X0 0
 have b1:=X0 1
 have b2:=X0 2
 have b3:=X0 3
 have b4:=X0 4
 have p0:=X1 0
 have p1:=X1 1
 have p2:=X1 2
 have p3:=X1 3
 have p4:=X1 4
 have p5:=X1 5
 have r0:=X2 0
 have r1:=X2 1
 have r2:=X2 2
 have r3:=X2 3
 have r4:=X2 4
 have r5:=X2 5
 have r6:=X2 6
 have r7:=X2 7
 have r8:=X2 8
 simp only [List.getElem?_toArray,List.getElem?_cons_succ,List.getElem?_cons_zero] at b0 b1 b2 b3 b4 p0 p1 p2 p3 p4 p5 r0 r1 r2 r3 r4 r5 r6 r7 r8
 have HB:=hid ((HB3.out _ _ _).trans (hb1.mono Zc))
 have HST:=hid hst
 clear X0 X1 X2 hb1 hst
 have hw:IntKind.i64.wrap (B.now+1)=B.now+1:=IntWalk.i64_in _ ⟨Za,Za⟩
 simp only [World.size_alloc] at HST
 rw [HOP.out] at p0
 rw [HE.out]
 rcases HSV.out with hs|⟨hs0,hs⟩
 ·rw [hs] at p3
  clear hs
  exact apP307
 ·rw [hs] at p3
  have hsb:(o.ver != 0)=true:=by rw [←hs];simpa using hs0
  clear hs hs0
  exact apP307
theorem chg_5n (B:Bk) (v:Wr) (a1 a2 a3:Option Addr) (c1 c2 c3:Nat) (o:Ob) (w:World) (hok:WOk B v) (hc:ObjsIn w 0 w.1.size a1 B.on B.os) (ho:fndOb B.os v.kind v.name B.on=o) (hol:(o.hn:Int)≤5) (ht:fndIs B.os v.kind v.name B.on=true) (hop:v.op=5) (hsv:v.seen=0∨(¬v.seen=0∧v.seen=o.ver)) (hh:hasB o.hn o.hs v.hold=false) :
  Calls Tryz.prog 75 #[.agg #[.int .i64 B.now,.int .i64 B.floor,.slice a1 B.on c1,.slice a2 B.hn c2,.slice a3 B.tn c3],.agg #[.int .i64 v.op,.string v.kind,.string v.name,.int .i64 v.seen,.string v.text,.string v.hold]] w fun e w'=>e=.returned (.tuple #[.agg #[.int .i64 0,.bool false,.string ⟨#[]⟩,.string ⟨#[]⟩,.int .i64 0,.int .i64 0,.string ⟨#[]⟩,.bool false,.slice none 0 0],.int .i64 6])∧Below w.1.size w w':=by
 have B3:∀ o1 o2 o3,Below w.1.size w (((w.alloc o1).alloc o2).alloc o3):=fun o1 o2 o3=>(((Below.refl _ _).alloc Zbt _).alloc Zd _).alloc Zc _
 have HB3:=hid B3
 have HOK:=hid hok
 have HC:=hid hc
 have HO:=hid ho
 have hn0:=hok.now0
 have hn1:=hok.now1
 have hon:(B.on:Int)≤100:=by have:=hok.on;omega
 have HON:=hid hon
 clear hok hc ho B3
 have HT:=hid ht
 have HOP:=hid hop
 clear ht hop
 have HSV:=hid hsv
 clear hsv
 have HH:=hid hh
 clear hh
 go_enter Tryz.func75,Tryz.ntmps75
 go_wp2_with fail
 refine (specFind_any B.now B.floor B.on B.os a1 a2 a3 c1 B.hn c2 B.tn c3 v.kind v.name _ 0 w.1.size Zc Zax HOK.out.fit.os (HC.out.below (HB3.out _ _ _) Zbt)).mono ?_
 rintro e w1 ⟨A,C,rfl,hcap,hst,hb1⟩
 rw [HO.out] at hcap hst
 rw [HO.out,HT.out]
 have z1:w.1.size+1+1<w1.1.size:=by have:=hb1.size;simp at this;omega
 have zA:w.1.size<w1.1.size:=Za
 have zB:w.1.size+1<w1.1.size:=Za
 have zA2:w.1.size<w1.1.size+1:=Za
 have zA3:w.1.size<w1.1.size+1+1:=Za
 have zB2:w.1.size+1<w1.1.size+1:=Za
 have zB3:w.1.size+1<w1.1.size+1+1:=Za
 have zC2:w.1.size+1+1<w1.1.size+1:=Za
 have zC3:w.1.size+1+1<w1.1.size+1+1:=Za
 obtain ⟨X0,X1,X2,Y1,Y2⟩:=three_cell hb1
 have b0:=X0 0
 have b1:=X0 1
 have b2:=X0 2
 have b3:=X0 3
 have b4:=X0 4
 have p0:=X1 0
 have p1:=X1 1
 have p2:=X1 2
 have p3:=X1 3
 have p4:=X1 4
 have p5:=X1 5
 have r0:=X2 0
 have r1:=X2 1
 have r2:=X2 2
 have r3:=X2 3
 have r4:=X2 4
 have r5:=X2 5
 have r6:=X2 6
 have r7:=X2 7
 have r8:=X2 8
 simp only [List.getElem?_toArray,List.getElem?_cons_succ,List.getElem?_cons_zero] at b0 b1 b2 b3 b4 p0 p1 p2 p3 p4 p5 r0 r1 r2 r3 r4 r5 r6 r7 r8
 have HB:=hid ((HB3.out _ _ _).trans (hb1.mono Zc))
 have HST:=hid hst
 clear X0 X1 X2 hb1 hst
 have hw:IntKind.i64.wrap (B.now+1)=B.now+1:=IntWalk.i64_in _ ⟨Za,Za⟩
 simp only [World.size_alloc] at HST
 rw [HOP.out] at p0
 cases hE:o.ending
 ·clear hE
  exact apP308
 ·clear hE
  exact apP308
end Go.Proofs.YtllmmkchokkaaaaGreatDoor
