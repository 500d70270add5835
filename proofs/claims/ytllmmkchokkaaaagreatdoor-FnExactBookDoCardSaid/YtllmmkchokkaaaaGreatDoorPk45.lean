import Derived.Test.YtllmmkchokkaaaaGreatDoorPk20
import Derived.Test.YtllmmkchokkaaaaGreatDoorPk43
import Derived.Test.YtllmmkchokkaaaaGreatDoorPk44
set_option maxRecDepth 100000
set_option maxHeartbeats 2000000
namespace Go.Proofs.YtllmmkchokkaaaaGreatDoor
open Go.RowKit Go.Maps
def bvS (B:Bk):Bool:=numB B.now B.floor&&(objsB B.on B.os B.now&&(histS B.now B.floor B.on B.os B.hn B.hs&&tkS B.tn B.ts B.now))
theorem allTo_and (p q:Nat→Bool):∀ n,allTo (fun i=>p i&&q i) n=(allTo p n&&allTo q n)
 | 0=>rfl
 | n+1=>by
  simp only [allTo,allTo_and p q n]
  cases allTo p n<;>cases allTo q n<;>cases p n<;>cases q n<;>rfl
theorem objs_eq (n:Nat) (x:Nat→Ob) (now:Int):objsB n x now=(objs1B n x now&&verDiff n x):=by
 unfold objsB objs1B
 cases decide (n≤100)<;>cases objAsc n x<;>cases objFit n x now<;>cases verDiff n x<;>rfl
theorem hist_eq (now floor:Int) (m:Nat) (x:Nat→Ob) (n:Nat) (h:Nat→Ch):histS now floor m x n h=(histB now floor n h&&(allTo (livB floor h) n&&agB floor m x n h)):=by
 have h1:allTo (hisB now floor h) n=(allTo (fun i=>decide ((h i).ver=floor+1+i)&&chgB (h i) now) n&&allTo (livB floor h) n):=by
  rw [←allTo_and]
  exact congrArg (fun p=>allTo p n) (funext fun i=>by
   unfold hisB
   cases decide ((h i).ver=floor+1+i)<;>cases chgB (h i) now<;>cases livB floor h i<;>rfl)
 unfold histS histB
 rw [h1]
 cases decide (n≤200)<;>cases decide ((n:Int)=now-floor)<;>cases allTo (fun i=>decide ((h i).ver=floor+1+i)&&chgB (h i) now) n<;>cases allTo (livB floor h) n<;>cases agB floor m x n h<;>rfl
theorem tics_eq (n:Nat) (x:Nat→Ti) (now:Int):tkS n x now=tisB n x now:=by
 unfold tkS tisB
 have h1:allTo (tkB x now) n=(allTo (fun i=>tiB (x i) now) n&&allTo (fun i=>i==0||ltB (x (i-1)).client (x i).client) n):=by
  rw [←allTo_and]
  rfl
 rw [h1]
 unfold tiAsc
 cases decide (n≤50)<;>cases allTo (fun i=>tiB (x i) now) n<;>cases allTo (fun i=>i==0||ltB (x (i-1)).client (x i).client) n<;>rfl
theorem valid_eq (B:Bk):bvS B=allTo (chk B) 7:=by
 unfold bvS
 rw [objs_eq,hist_eq,tics_eq]
 simp only [allTo,chk]
 cases numB B.now B.floor<;>cases objs1B B.on B.os B.now<;>cases verDiff B.on B.os<;>cases histB B.now B.floor B.hn B.hs<;>cases allTo (livB B.floor B.hs) B.hn<;>cases agB B.floor B.on B.os B.hn B.hs<;>cases tisB B.tn B.ts B.now<;>rfl
theorem specValid_any (B:Bk) (a1 a2 a3:Option Addr) (c1 c2 c3:Nat) (w:World) (lo hi:Nat) (hhi:hi≤w.1.size) (hfit:BkFit B) (hin:BkIn w lo hi B a1 a2 a3) :
  Calls Tryz.prog 34 #[.agg #[.int .i64 B.now,.int .i64 B.floor,.slice a1 B.on c1,.slice a2 B.hn c2,.slice a3 B.tn c3]] w fun e w'=>e=.returned (.bool (allTo (chk B) 7))∧Below w.1.size w w':=by
 rw [←valid_eq]
 obtain ⟨f1,f2,f3,f4,f5,f6⟩:=hfit
 cases h1:inB B.now 0 1000000 with
 | false=>
  have HE:=hid (show bvS B=false by unfold bvS numB;rw [h1];rfl)
  go_enter Tryz.func34,Tryz.ntmps34
  go_wp2_with (go_at_call 70;refine (in_any _ _ _ _).mono ?_;rintro e w1 ⟨rfl,rfl⟩;rw [h1])
  go_ret
  exact ⟨ret_bool HE.out.symm,below_alloc' _ _⟩
 | true=>
 cases h2:inB B.floor 0 B.now with
 | false=>
  have HE:=hid (show bvS B=false by unfold bvS numB;rw [h2];simp)
  go_enter Tryz.func34,Tryz.ntmps34
  go_wp2_with (go_at_call 70;refine (in_any _ _ _ _).mono ?_;rintro e w1 ⟨rfl,rfl⟩;first|rw [h1]|rw [h2])
  go_ret
  exact ⟨ret_bool HE.out.symm,below_alloc' _ _⟩
 | true=>
 have HN:=hid (show numB B.now B.floor=true by unfold numB;rw [h1,h2];rfl)
 obtain ⟨n1,n2,n3⟩:=numB_yes HN.out
 have N1:=hid n1
 have N2:=hid n2
 have N3:=hid n3
 clear n1 n2 n3
 have hA:=hid (show BkIn (w.alloc (.cells #[.int .i64 B.now,.int .i64 B.floor,.slice a1 B.on c1,.slice a2 B.hn c2,.slice a3 B.tn c3] 35)) lo hi B a1 a2 a3 from hin.below (below_alloc' _ _) hhi)
 clear hin
 go_enter Tryz.func34,Tryz.ntmps34
 go_wp2_with (go_at_call 70;refine (in_any _ _ _ _).mono ?_;rintro e w1 ⟨rfl,rfl⟩;first|rw [h1]|rw [h2])
 refine (specObjs_any B.now B.floor B.on B.os a1 a2 a3 c1 B.hn c2 B.tn c3 _ lo hi (by simp;omega) (by omega) f4 hA.out.o).mono ?_
 rintro e w1 ⟨rfl,hb1⟩
 cases ho:objsB B.on B.os B.now with
 | false=>
  have HE:=hid (show bvS B=false by unfold bvS;rw [ho];simp)
  go_wp2
  go_ret
  exact ⟨ret_bool HE.out.symm,(below_alloc' _ _).trans (hb1.mono (by simp))⟩
 | true=>
 have HO:=hid ho
 have p0:=box_cell hb1 0
 have p1:=box_cell hb1 1
 have p2:=box_cell hb1 2
 have p3:=box_cell hb1 3
 have p4:=box_cell hb1 4
 simp only [List.getElem?_toArray,List.getElem?_cons_succ,List.getElem?_cons_zero] at p0 p1 p2 p3 p4
 have hz1:w.1.size<w1.1.size:=by have:=hb1.size;simp at this;omega
 have hA1:=hid (hA.out.below hb1 (by simp;omega))
 have hB1:Below w.1.size w w1:=(below_alloc' _ _).trans (hb1.mono (by simp))
 clear hb1 hA ho
 go_wp2_with fail
 refine (specHist_any B.now B.floor B.on B.hn B.os B.hs a1 a2 a3 c1 c2 B.tn c3 w1 lo hi (by omega) (by omega) (by omega) N1.out N2.out N3.out f4 f5 hA1.out.o hA1.out.h).mono ?_
 rintro e w2 ⟨rfl,hb2⟩
 cases hh:histS B.now B.floor B.on B.os B.hn B.hs with
 | false=>
  have HE:=hid (show bvS B=false by unfold bvS;rw [hh];simp)
  go_wp2
  go_ret
  exact ⟨ret_bool HE.out.symm,hB1.trans (hb2.mono (by omega))⟩
 | true=>
 have HH:=hid hh
 have q0:=(hb2.cell (p:=⟨w.1.size,0,none⟩) hz1).trans p0
 have q1:=(hb2.cell (p:=⟨w.1.size,1,none⟩) hz1).trans p1
 have q2:=(hb2.cell (p:=⟨w.1.size,2,none⟩) hz1).trans p2
 have q3:=(hb2.cell (p:=⟨w.1.size,3,none⟩) hz1).trans p3
 have q4:=(hb2.cell (p:=⟨w.1.size,4,none⟩) hz1).trans p4
 have hA2:=hid (hA1.out.below hb2 (by omega))
 have hB2:Below w.1.size w w2:=hB1.trans (hb2.mono (by omega))
 have hz2:w.1.size<w2.1.size:=by have:=hb2.size;omega
 clear hb2 hA1 hh p0 p1 p2 p3 p4
 go_wp2_with fail
 refine (specTics_any B.now B.floor B.tn B.ts a1 a2 a3 B.on c1 B.hn c2 c3 w2 lo hi (by omega) (by omega) f6 hA2.out.t).mono ?_
 rintro e w3 ⟨rfl,hb3⟩
 have HE:=hid (show bvS B=tkS B.tn B.ts B.now by unfold bvS;rw [HN.out,HO.out,HH.out];rfl)
 clear q0 q1 q2 q3 q4
 go_wp2
 go_ret
 exact ⟨ret_bool HE.out.symm,hB2.trans (hb3.mono (by omega))⟩
end Go.Proofs.YtllmmkchokkaaaaGreatDoor
