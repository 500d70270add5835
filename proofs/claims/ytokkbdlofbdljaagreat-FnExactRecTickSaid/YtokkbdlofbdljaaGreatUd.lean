import Derived.Test.YtokkbdlofbdljaaGreatHh
namespace Go.Proofs.YtokkbdlofbdljaaGreat
open Go.RowKit
set_option maxHeartbeats 4000000
def nbS (a n o:Int):Int:=if a / o*o+n≤a then a / o*o+n+o else a / o*o+n
def nbR (a n o:Int):Int:=if Yc n o&&inB a 0 1000000 then (if nbS a n o≤1000000 then nbS a n o else 0) else 0
theorem U7 {a n o:Int} (h:(Yc n o&&inB a 0 1000000)=false):nbR a n o=0:=by unfold nbR;rw [h];rfl
theorem PH {a n o:Int} (h1:Yc n o=true) (h2:inB a 0 1000000=true):nbR a n o=(if nbS a n o≤1000000 then nbS a n o else 0):=by unfold nbR;rw [h1,h2];rfl
theorem UX {P:Prop} (h:P:=by
  clear HE HQ
  go_enter Tryz.func148,Tryz.ntmps148
  go_wp2_with (first|(go_at_call 89;refine (J5 _ _ _).mono ?_;rintro e w1 ⟨rfl,rfl⟩;first|rw [hnum]|rw [h3])|(go_at_call 93;refine (Zu _ _ _ _).mono ?_;rintro e w1 ⟨rfl,rfl⟩;first|rw [hnum]|rw [h3]))
  go_ret
  exact ⟨ZE (HR.out.trans (by omega)).symm,rfl⟩):P:=h
theorem UW {P:Prop} (h:P:=by
  clear HE HQ
  go_enter Tryz.func148,Tryz.ntmps148
  go_wp2_with (first|(go_at_call 89;refine (J5 _ _ _).mono ?_;rintro e w1 ⟨rfl,rfl⟩;first|rw [hnum]|rw [h3])|(go_at_call 93;refine (Zu _ _ _ _).mono ?_;rintro e w1 ⟨rfl,rfl⟩;first|rw [hnum]|rw [h3]))
  go_ret
  exact ⟨ZE HR.out.symm,rfl⟩):P:=h
set_option maxRecDepth 100000 in
theorem IE (a n o:Int) (w:World):Calls Tryz.prog 148 #[.int .i64 a,.int .i64 n,.int .i64 o] w fun e w'=>e=.returned (.int .i64 (nbR a n o))∧w'=w:=by
 cases hnum:Yc n o with
 | false=>
  have HE:=hid (U7 (a:=a) (n:=n) (o:=o) (by rw [hnum];rfl))
  go_enter Tryz.func148,Tryz.ntmps148
  go_wp2_with (first|(go_at_call 89;refine (J5 _ _ _).mono ?_;rintro e w1 ⟨rfl,rfl⟩;rw [hnum])|(go_at_call 93;refine (Zu _ _ _ _).mono ?_;rintro e w1 ⟨rfl,rfl⟩;rw [hnum]))
  go_ret
  exact ⟨ZE HE.out.symm,rfl⟩
 | true=>
  cases h3:inB a 0 1000000 with
  | false=>
   have HE:=hid (U7 (a:=a) (n:=n) (o:=o) (by rw [hnum,h3];rfl))
   go_enter Tryz.func148,Tryz.ntmps148
   go_wp2_with (first|(go_at_call 89;refine (J5 _ _ _).mono ?_;rintro e w1 ⟨rfl,rfl⟩;first|rw [hnum]|rw [h3])|(go_at_call 93;refine (Zu _ _ _ _).mono ?_;rintro e w1 ⟨rfl,rfl⟩;first|rw [hnum]|rw [h3]))
   go_ret
   exact ⟨ZE HE.out.symm,rfl⟩
  | true=>
   have HE:=hid (PH hnum h3)
   have g1:=(show (1:Int)≤o∧o≤5∧1≤n∧n≤o by have e:=hnum;rw [Yc,Bool.and_eq_true] at e;exact ⟨(Yj e.1).1,(Yj e.1).2,(Yj e.2).1,(Yj e.2).2⟩)
   have g2:=Yj h3
   obtain ⟨g1,g4,g5,g6⟩:=g1
   obtain ⟨g2,g3⟩:=g2
   have hod:o=1∨o=2∨o=3∨o=4∨o=5:=by omega
   rcases hod with rfl|rfl|rfl|rfl|rfl
   ·obtain ⟨q,hq⟩:∃ q:Int,a / 1=q:=⟨_,rfl⟩
    have HQ:=hid hq
    have hdiv:=Int.tdiv_eq_ediv_of_nonneg (b:=1) g2
    rw [hq] at hdiv
    have hmod:=Int.tmod_eq_emod_of_nonneg (b:=1) g2
    have hm2:a % 1=a-q*1:=by omega
    rw [hm2] at hmod
    have gq:0≤q:=by omega
    have gq2:q*1≤a:=by omega
    clear hm2 hq
    by_cases h5:q*1+n≤a
    ·by_cases h6:q*1+n+1≤1000000
     ·have HR:Hid (nbR a n 1=q*1+n+1):=by have e:=HE.out;rw [nbS,HQ.out,if_pos h5,if_pos h6] at e;exact e
      exact UX
     ·have HR:Hid (nbR a n 1=0):=by have e:=HE.out;rw [nbS,HQ.out,if_pos h5,if_neg h6] at e;exact e
      exact UW
    ·by_cases h6:q*1+n≤1000000
     ·have HR:Hid (nbR a n 1=q*1+n):=by have e:=HE.out;rw [nbS,HQ.out,if_neg h5,if_pos h6] at e;exact e
      exact UX
     ·have HR:Hid (nbR a n 1=0):=by have e:=HE.out;rw [nbS,HQ.out,if_neg h5,if_neg h6] at e;exact e
      exact UW
   ·obtain ⟨q,hq⟩:∃ q:Int,a / 2=q:=⟨_,rfl⟩
    have HQ:=hid hq
    have hdiv:=Int.tdiv_eq_ediv_of_nonneg (b:=2) g2
    rw [hq] at hdiv
    have hmod:=Int.tmod_eq_emod_of_nonneg (b:=2) g2
    have hm2:a % 2=a-q*2:=by omega
    rw [hm2] at hmod
    have gq:0≤q:=by omega
    have gq2:q*2≤a:=by omega
    clear hm2 hq
    by_cases h5:q*2+n≤a
    ·by_cases h6:q*2+n+2≤1000000
     ·have HR:Hid (nbR a n 2=q*2+n+2):=by have e:=HE.out;rw [nbS,HQ.out,if_pos h5,if_pos h6] at e;exact e
      exact UX
     ·have HR:Hid (nbR a n 2=0):=by have e:=HE.out;rw [nbS,HQ.out,if_pos h5,if_neg h6] at e;exact e
      exact UW
    ·by_cases h6:q*2+n≤1000000
     ·have HR:Hid (nbR a n 2=q*2+n):=by have e:=HE.out;rw [nbS,HQ.out,if_neg h5,if_pos h6] at e;exact e
      exact UX
     ·have HR:Hid (nbR a n 2=0):=by have e:=HE.out;rw [nbS,HQ.out,if_neg h5,if_neg h6] at e;exact e
      exact UW
   ·obtain ⟨q,hq⟩:∃ q:Int,a / 3=q:=⟨_,rfl⟩
    have HQ:=hid hq
    have hdiv:=Int.tdiv_eq_ediv_of_nonneg (b:=3) g2
    rw [hq] at hdiv
    have hmod:=Int.tmod_eq_emod_of_nonneg (b:=3) g2
    have hm2:a % 3=a-q*3:=by omega
    rw [hm2] at hmod
    have gq:0≤q:=by omega
    have gq2:q*3≤a:=by omega
    clear hm2 hq
    by_cases h5:q*3+n≤a
    ·by_cases h6:q*3+n+3≤1000000
     ·have HR:Hid (nbR a n 3=q*3+n+3):=by have e:=HE.out;rw [nbS,HQ.out,if_pos h5,if_pos h6] at e;exact e
      exact UX
     ·have HR:Hid (nbR a n 3=0):=by have e:=HE.out;rw [nbS,HQ.out,if_pos h5,if_neg h6] at e;exact e
      exact UW
    ·by_cases h6:q*3+n≤1000000
     ·have HR:Hid (nbR a n 3=q*3+n):=by have e:=HE.out;rw [nbS,HQ.out,if_neg h5,if_pos h6] at e;exact e
      exact UX
     ·have HR:Hid (nbR a n 3=0):=by have e:=HE.out;rw [nbS,HQ.out,if_neg h5,if_neg h6] at e;exact e
      exact UW
   ·obtain ⟨q,hq⟩:∃ q:Int,a / 4=q:=⟨_,rfl⟩
    have HQ:=hid hq
    have hdiv:=Int.tdiv_eq_ediv_of_nonneg (b:=4) g2
    rw [hq] at hdiv
    have hmod:=Int.tmod_eq_emod_of_nonneg (b:=4) g2
    have hm2:a % 4=a-q*4:=by omega
    rw [hm2] at hmod
    have gq:0≤q:=by omega
    have gq2:q*4≤a:=by omega
    clear hm2 hq
    by_cases h5:q*4+n≤a
    ·by_cases h6:q*4+n+4≤1000000
     ·have HR:Hid (nbR a n 4=q*4+n+4):=by have e:=HE.out;rw [nbS,HQ.out,if_pos h5,if_pos h6] at e;exact e
      exact UX
     ·have HR:Hid (nbR a n 4=0):=by have e:=HE.out;rw [nbS,HQ.out,if_pos h5,if_neg h6] at e;exact e
      exact UW
    ·by_cases h6:q*4+n≤1000000
     ·have HR:Hid (nbR a n 4=q*4+n):=by have e:=HE.out;rw [nbS,HQ.out,if_neg h5,if_pos h6] at e;exact e
      exact UX
     ·have HR:Hid (nbR a n 4=0):=by have e:=HE.out;rw [nbS,HQ.out,if_neg h5,if_neg h6] at e;exact e
      exact UW
   ·obtain ⟨q,hq⟩:∃ q:Int,a / 5=q:=⟨_,rfl⟩
    have HQ:=hid hq
    have hdiv:=Int.tdiv_eq_ediv_of_nonneg (b:=5) g2
    rw [hq] at hdiv
    have hmod:=Int.tmod_eq_emod_of_nonneg (b:=5) g2
    have hm2:a % 5=a-q*5:=by omega
    rw [hm2] at hmod
    have gq:0≤q:=by omega
    have gq2:q*5≤a:=by omega
    clear hm2 hq
    by_cases h5:q*5+n≤a
    ·by_cases h6:q*5+n+5≤1000000
     ·have HR:Hid (nbR a n 5=q*5+n+5):=by have e:=HE.out;rw [nbS,HQ.out,if_pos h5,if_pos h6] at e;exact e
      exact UX
     ·have HR:Hid (nbR a n 5=0):=by have e:=HE.out;rw [nbS,HQ.out,if_pos h5,if_neg h6] at e;exact e
      exact UW
    ·by_cases h6:q*5+n≤1000000
     ·have HR:Hid (nbR a n 5=q*5+n):=by have e:=HE.out;rw [nbS,HQ.out,if_neg h5,if_pos h6] at e;exact e
      exact UX
     ·have HR:Hid (nbR a n 5=0):=by have e:=HE.out;rw [nbS,HQ.out,if_neg h5,if_neg h6] at e;exact e
      exact UW
theorem UV {P:Prop} (h:P:=by
  clear HE HQ
  go_enter Tryz.func37,Tryz.ntmps37
  go_wp2_with (go_at_call 75;refine (ZI _ _ _ _).mono ?_;rintro e w1 ⟨rfl,rfl⟩;first|rw [h1]|rw [h2]|rw [h3])
  go_ret
  exact ⟨ZE (HR.out.trans (by omega)).symm,rfl⟩):P:=h
theorem UU {P:Prop} (h:P:=by
  clear HE HQ
  go_enter Tryz.func37,Tryz.ntmps37
  go_wp2_with (go_at_call 75;refine (ZI _ _ _ _).mono ?_;rintro e w1 ⟨rfl,rfl⟩;first|rw [h1]|rw [h2]|rw [h3])
  go_ret
  exact ⟨ZE HR.out.symm,rfl⟩):P:=h
set_option maxRecDepth 100000 in
theorem Il (a n o:Int) (w:World):Calls Tryz.prog 37 #[.int .i64 a,.int .i64 n,.int .i64 o] w fun e w'=>e=.returned (.int .i64 (nbR a n o))∧w'=w:=by
 cases h1:inB o 1 5 with
 | false=>
  have HE:=hid (U7 (a:=a) (n:=n) (o:=o) (by rw [Yc,h1];rfl))
  go_enter Tryz.func37,Tryz.ntmps37
  go_wp2_with (go_at_call 75;refine (ZI _ _ _ _).mono ?_;rintro e w1 ⟨rfl,rfl⟩;rw [h1])
  go_ret
  exact ⟨ZE HE.out.symm,rfl⟩
 | true=>
  cases h2:inB n 1 o with
  | false=>
   have HE:=hid (U7 (a:=a) (n:=n) (o:=o) (by rw [Yc,h1,h2];rfl))
   go_enter Tryz.func37,Tryz.ntmps37
   go_wp2_with (go_at_call 75;refine (ZI _ _ _ _).mono ?_;rintro e w1 ⟨rfl,rfl⟩;first|rw [h1]|rw [h2])
   go_ret
   exact ⟨ZE HE.out.symm,rfl⟩
  | true=>
   have hnum:Yc n o=true:=by rw [Yc,h1,h2];rfl
   cases h3:inB a 0 1000000 with
   | false=>
    have HE:=hid (U7 (a:=a) (n:=n) (o:=o) (by rw [hnum,h3];rfl))
    clear hnum
    go_enter Tryz.func37,Tryz.ntmps37
    go_wp2_with (go_at_call 75;refine (ZI _ _ _ _).mono ?_;rintro e w1 ⟨rfl,rfl⟩;first|rw [h1]|rw [h2]|rw [h3])
    go_ret
    exact ⟨ZE HE.out.symm,rfl⟩
   | true=>
    have HE:=hid (PH hnum h3)
    have g1:=(show (1:Int)≤o∧o≤5∧1≤n∧n≤o by have e:=hnum;rw [Yc,Bool.and_eq_true] at e;exact ⟨(Yj e.1).1,(Yj e.1).2,(Yj e.2).1,(Yj e.2).2⟩)
    have g2:=Yj h3
    clear hnum
    obtain ⟨g1,g4,g5,g6⟩:=g1
    obtain ⟨g2,g3⟩:=g2
    have hod:o=1∨o=2∨o=3∨o=4∨o=5:=by omega
    rcases hod with rfl|rfl|rfl|rfl|rfl
    ·obtain ⟨q,hq⟩:∃ q:Int,a / 1=q:=⟨_,rfl⟩
     have HQ:=hid hq
     have hdiv:=Int.tdiv_eq_ediv_of_nonneg (b:=1) g2
     rw [hq] at hdiv
     have hmod:=Int.tmod_eq_emod_of_nonneg (b:=1) g2
     have hm2:a % 1=a-q*1:=by omega
     rw [hm2] at hmod
     have gq:0≤q:=by omega
     have gq2:q*1≤a:=by omega
     clear hm2 hq
     by_cases h5:q*1+n≤a
     ·by_cases h6:q*1+n+1≤1000000
      ·have HR:Hid (nbR a n 1=q*1+n+1):=by have e:=HE.out;rw [nbS,HQ.out,if_pos h5,if_pos h6] at e;exact e
       exact UV
      ·have HR:Hid (nbR a n 1=0):=by have e:=HE.out;rw [nbS,HQ.out,if_pos h5,if_neg h6] at e;exact e
       exact UU
     ·by_cases h6:q*1+n≤1000000
      ·have HR:Hid (nbR a n 1=q*1+n):=by have e:=HE.out;rw [nbS,HQ.out,if_neg h5,if_pos h6] at e;exact e
       exact UV
      ·have HR:Hid (nbR a n 1=0):=by have e:=HE.out;rw [nbS,HQ.out,if_neg h5,if_neg h6] at e;exact e
       exact UU
    ·obtain ⟨q,hq⟩:∃ q:Int,a / 2=q:=⟨_,rfl⟩
     have HQ:=hid hq
     have hdiv:=Int.tdiv_eq_ediv_of_nonneg (b:=2) g2
     rw [hq] at hdiv
     have hmod:=Int.tmod_eq_emod_of_nonneg (b:=2) g2
     have hm2:a % 2=a-q*2:=by omega
     rw [hm2] at hmod
     have gq:0≤q:=by omega
     have gq2:q*2≤a:=by omega
     clear hm2 hq
     by_cases h5:q*2+n≤a
     ·by_cases h6:q*2+n+2≤1000000
      ·have HR:Hid (nbR a n 2=q*2+n+2):=by have e:=HE.out;rw [nbS,HQ.out,if_pos h5,if_pos h6] at e;exact e
       exact UV
      ·have HR:Hid (nbR a n 2=0):=by have e:=HE.out;rw [nbS,HQ.out,if_pos h5,if_neg h6] at e;exact e
       exact UU
     ·by_cases h6:q*2+n≤1000000
      ·have HR:Hid (nbR a n 2=q*2+n):=by have e:=HE.out;rw [nbS,HQ.out,if_neg h5,if_pos h6] at e;exact e
       exact UV
      ·have HR:Hid (nbR a n 2=0):=by have e:=HE.out;rw [nbS,HQ.out,if_neg h5,if_neg h6] at e;exact e
       exact UU
    ·obtain ⟨q,hq⟩:∃ q:Int,a / 3=q:=⟨_,rfl⟩
     have HQ:=hid hq
     have hdiv:=Int.tdiv_eq_ediv_of_nonneg (b:=3) g2
     rw [hq] at hdiv
     have hmod:=Int.tmod_eq_emod_of_nonneg (b:=3) g2
     have hm2:a % 3=a-q*3:=by omega
     rw [hm2] at hmod
     have gq:0≤q:=by omega
     have gq2:q*3≤a:=by omega
     clear hm2 hq
     by_cases h5:q*3+n≤a
     ·by_cases h6:q*3+n+3≤1000000
      ·have HR:Hid (nbR a n 3=q*3+n+3):=by have e:=HE.out;rw [nbS,HQ.out,if_pos h5,if_pos h6] at e;exact e
       exact UV
      ·have HR:Hid (nbR a n 3=0):=by have e:=HE.out;rw [nbS,HQ.out,if_pos h5,if_neg h6] at e;exact e
       exact UU
     ·by_cases h6:q*3+n≤1000000
      ·have HR:Hid (nbR a n 3=q*3+n):=by have e:=HE.out;rw [nbS,HQ.out,if_neg h5,if_pos h6] at e;exact e
       exact UV
      ·have HR:Hid (nbR a n 3=0):=by have e:=HE.out;rw [nbS,HQ.out,if_neg h5,if_neg h6] at e;exact e
       exact UU
    ·obtain ⟨q,hq⟩:∃ q:Int,a / 4=q:=⟨_,rfl⟩
     have HQ:=hid hq
     have hdiv:=Int.tdiv_eq_ediv_of_nonneg (b:=4) g2
     rw [hq] at hdiv
     have hmod:=Int.tmod_eq_emod_of_nonneg (b:=4) g2
     have hm2:a % 4=a-q*4:=by omega
     rw [hm2] at hmod
     have gq:0≤q:=by omega
     have gq2:q*4≤a:=by omega
     clear hm2 hq
     by_cases h5:q*4+n≤a
     ·by_cases h6:q*4+n+4≤1000000
      ·have HR:Hid (nbR a n 4=q*4+n+4):=by have e:=HE.out;rw [nbS,HQ.out,if_pos h5,if_pos h6] at e;exact e
       exact UV
      ·have HR:Hid (nbR a n 4=0):=by have e:=HE.out;rw [nbS,HQ.out,if_pos h5,if_neg h6] at e;exact e
       exact UU
     ·by_cases h6:q*4+n≤1000000
      ·have HR:Hid (nbR a n 4=q*4+n):=by have e:=HE.out;rw [nbS,HQ.out,if_neg h5,if_pos h6] at e;exact e
       exact UV
      ·have HR:Hid (nbR a n 4=0):=by have e:=HE.out;rw [nbS,HQ.out,if_neg h5,if_neg h6] at e;exact e
       exact UU
    ·obtain ⟨q,hq⟩:∃ q:Int,a / 5=q:=⟨_,rfl⟩
     have HQ:=hid hq
     have hdiv:=Int.tdiv_eq_ediv_of_nonneg (b:=5) g2
     rw [hq] at hdiv
     have hmod:=Int.tmod_eq_emod_of_nonneg (b:=5) g2
     have hm2:a % 5=a-q*5:=by omega
     rw [hm2] at hmod
     have gq:0≤q:=by omega
     have gq2:q*5≤a:=by omega
     clear hm2 hq
     by_cases h5:q*5+n≤a
     ·by_cases h6:q*5+n+5≤1000000
      ·have HR:Hid (nbR a n 5=q*5+n+5):=by have e:=HE.out;rw [nbS,HQ.out,if_pos h5,if_pos h6] at e;exact e
       exact UV
      ·have HR:Hid (nbR a n 5=0):=by have e:=HE.out;rw [nbS,HQ.out,if_pos h5,if_neg h6] at e;exact e
       exact UU
     ·by_cases h6:q*5+n≤1000000
      ·have HR:Hid (nbR a n 5=q*5+n):=by have e:=HE.out;rw [nbS,HQ.out,if_neg h5,if_pos h6] at e;exact e
       exact UV
      ·have HR:Hid (nbR a n 5=0):=by have e:=HE.out;rw [nbS,HQ.out,if_neg h5,if_neg h6] at e;exact e
       exact UU
def toM (num:Int) (m:Ms) (k:Nat):Ms:=⟨m.kind,num,(k:Int)+1,m.bal,m.ix,m.kn,m.text,m.n,m.s⟩
def YE (num:Int) (m:Ms):Nat→Nat × (Nat→Ms)→Nat × (Nat→Ms)
 | 0,s=>s
 | k+1,s=>if (k:Int)+1=num then YE num m k s else ((YE num m k s).1+1,updF (YE num m k s).2 (YE num m k s).1 (toM num m k))
theorem U6 (num:Int) (m:Ms) (s:Nat × (Nat→Ms)):∀ k,(YE num m k s).1≤s.1+k
 | 0=>lrf _
 | k+1=>by
  have:=U6 num m s k
  rw [YE]
  split
  ·omega
  ·simp only []
   omega
theorem BdMs.congr {w:World} {base:Nat} {v:Value} {k:Nat} {x y:Nat→Ms} {A:Nat→Option Addr} {C hb:Nat→Nat} (h:BdMs w base v k x A C hb) (e:∀ i,i<k→x i=y i):BdMs w base v k y A C hb:=by
 obtain ⟨⟨c,r,hat⟩,h1,h2,h3,h4⟩:=h
 refine ⟨⟨c,r,fun i hi=>by rw [←e i hi];exact hat i hi⟩,fun i hi=>by rw [←e i hi];exact h1 i hi,fun i hi=>by rw [←e i hi];exact h2 i hi,fun i hi=>by rw [←e i hi];exact h3 i hi,fun i j hi hj=>by rw [←e i hi,←e j hj];exact h4 i j hi hj⟩
set_option maxRecDepth 100000 in
theorem Un (r:Rc) (RA:RcA) (m:Ms) (hm0:m.n=0) (k0:Nat) (x:Nat→Ms) (o:Value) (base:Nat) (A:Nat→Option Addr) (C hb:Nat→Nat) (w:World) (ho0:0≤r.of) (ho1:r.of≤1000) (hk0:k0≤100000) (hbase:base≤w.1.size) (bd:BdMs w base o k0 x A C hb) :
  Calls Tryz.prog 39 #[rcV r RA,o,.agg #[.int .i64 m.kind,.int .i64 m.from_,.int .i64 m.to,.int .i64 m.bal,.int .i64 m.ix,.int .i64 m.kn,.string m.text,.slice none 0 0]] w fun e w'=>∃ o' A' C' hb',e=.returned o'∧BdMs w' base o' (YE r.num m r.of.toNat (k0,x)).1 (YE r.num m r.of.toNat (k0,x)).2 A' C' hb'∧FrP (fun q=>o.ownBlock=some q) w w'∧(∀ q,o'.ownBlock=some q→o.ownBlock=some q∨w.1.size≤q):=by
 obtain ⟨i0,hi0,hz0,hz1,hz2⟩:=info_parts Tryz.info52
 have BD0:=hid bd
 clear bd
 have HOW:Hid (∀ q,o.ownBlock=some q→q<w.1.size):=hid (fun q hq=>by obtain ⟨c0,r0,_⟩:=BD0.out.row;exact (r0.lt q hq).2)
 have hof:∃ f:Nat,r.of=(f:Int):=⟨r.of.toNat,by omega⟩
 obtain ⟨f,hf⟩:=hof
 have hfn:r.of.toNat=f:=by omega
 rw [hfn]
 have HF:=hid hf
 obtain ⟨X1,X2⟩:=Bx.new2 w (rcC r RA) #[.int .i64 m.kind,.int .i64 m.from_,.int .i64 m.to,.int .i64 m.bal,.int .i64 m.ix,.int .i64 m.kn,.string m.text,.slice none 0 0] 38 52
 have HX1:=hid X1
 have HX2:=hid X2
 have hm:=hid hm0
 have hf1:f≤1000:=by omega
 clear X1 X2 hfn hf hm0
 go_enter Tryz.func39,Tryz.ntmps39
 go_wp2
 go_loopw [1,7] (fun v i wr=>∃ (k:Nat) (A':Nat→Option Addr) (C' hb':Nat→Nat),k≤f∧i=.int .i64 ((k:Int)+1)∧Bx wr w.1.size (rcC r RA)∧Bx wr (w.1.size+1) #[.int .i64 m.kind,.int .i64 m.from_,.int .i64 m.to,.int .i64 m.bal,.int .i64 m.ix,.int .i64 m.kn,.string m.text,.slice none 0 0]∧BdMs wr base v (YE r.num m k (k0,x)).1 (YE r.num m k (k0,x)).2 A' C' hb'∧FrP (fun q=>o.ownBlock=some q) w wr∧(∀ q,v.ownBlock=some q→o.ownBlock=some q∨w.1.size+2≤q)) (fun _ i _=>f+1-(intOf i).toNat)
 case atStart=>exact ⟨0,A,C,hb,zle _,rfl,HX1.out,HX2.out,(BD0.out.grow (Zb _ _)).grow (Zb _ _),FrP.of_below ((Zb _ _).alloc (by simp) _),fun q hq=>Or.inl hq⟩
 case round=>
  clear HX1 HX2 BD0
  obtain ⟨k,A',C',hb',hk,rfl,x1,x2,bd,hfr,how⟩:=hrel
  have X1:=hid x1
  have X2:=hid x2
  have BD:=hid bd
  have FR:=hid hfr
  have OW:=hid how
  have hle:=U6 r.num m (k0,x) k
  have hz:=x2.lt
  have hzS:=x1.lt
  have q0:wr.cell? ⟨w.1.size,0,none⟩=some (.int .i64 r.num):=x1.cell 0
  have q1:wr.cell? ⟨w.1.size,1,none⟩=some (.int .i64 r.of):=x1.cell 1
  have p0:wr.cell? ⟨w.1.size+1,0,none⟩=some (.int .i64 m.kind):=x2.cell 0
  have p1:wr.cell? ⟨w.1.size+1,1,none⟩=some (.int .i64 m.from_):=x2.cell 1
  have p2:wr.cell? ⟨w.1.size+1,2,none⟩=some (.int .i64 m.to):=x2.cell 2
  have p3:wr.cell? ⟨w.1.size+1,3,none⟩=some (.int .i64 m.bal):=x2.cell 3
  have p4:wr.cell? ⟨w.1.size+1,4,none⟩=some (.int .i64 m.ix):=x2.cell 4
  have p5:wr.cell? ⟨w.1.size+1,5,none⟩=some (.int .i64 m.kn):=x2.cell 5
  have p6:wr.cell? ⟨w.1.size+1,6,none⟩=some (.string m.text):=x2.cell 6
  have p7:wr.cell? ⟨w.1.size+1,7,none⟩=some (.slice none 0 0):=x2.cell 7
  clear x1 x2 bd hfr how
  rw [HF.out] at q1
  by_cases hkf:k<f
  ·have HKF:=hid hkf
   by_cases hkn:(k:Int)+1=r.num
   ·have hOt:YE r.num m (k+1) (k0,x)=YE r.num m k (k0,x):=by rw [YE,if_pos hkn]
    have HOT:=hid hOt
    clear hOt
    have HKN:=hid hkn
    rw [←hkn] at q0
    clear hkn
    go_wp2
    go_roundw
    case rel=>exact ⟨k+1,_,_,_,HKF.out,by go_num,X1.out,X2.out,by rw [HOT.out];exact BD.out,FR.out,OW.out⟩
    case measure=>have:=HKF.out;simp [intOf];omega
   ·have hOt:YE r.num m (k+1) (k0,x)=((YE r.num m k (k0,x)).1+1,updF (YE r.num m k (k0,x)).2 (YE r.num m k (k0,x)).1 (toM r.num m k)):=by rw [YE,if_neg hkn]
    have HOT:=hid hOt
    clear hOt
    have WB:=hid (((Zb wr (.cells #[.int .i64 m.kind,.int .i64 r.num,.int .i64 ((k:Int)+1),.int .i64 m.bal,.int .i64 m.ix,.int .i64 m.kn,.string m.text,.slice none 0 0] 52)).alloc (by simp) (.cells #[.int .i64 m.kind,.int .i64 r.num,.int .i64 ((k:Int)+1),.int .i64 m.bal,.int .i64 m.ix,.int .i64 m.kn,.string m.text,.slice none 0 0] 52)))
    obtain ⟨n9,hn9⟩:∃ n,(YE r.num m k (k0,x)).1=n:=⟨_,rfl⟩
    obtain ⟨y9,hy9⟩:∃ y,(YE r.num m k (k0,x)).2=y:=⟨_,rfl⟩
    rw [hn9,hy9] at BD HOT
    rw [hn9] at hle
    clear hn9 hy9
    have BD1:=hid ((BD.out.grow WB.out).congr (y:=updF y9 n9 (toM r.num m k)) (fun i hi=>(Zn _ _ (by omega)).symm))
    obtain ⟨c,hown,hat⟩:=BD1.out.row
    have HAT:=hid hat
    have HOWN:=hid hown
    clear hat hown
    have hle2:(n9:Int)≤200000:=by simp only [] at hle;omega
    clear hle
    go_wp2_with (at_builtin;go_must (refine wpList_append_own_at _ rfl _ _ 35 rfl base 52 i0 _ 8 88 Tryz.underlying35 hi0 hz0 hz1 hz2 rfl (by decide) _ n9 (Zg (n9*8) c) rfl HOWN.out ⟨wr.1.size+1,0,none⟩ 1 1 [.int .i64 m.kind,.int .i64 r.num,.int .i64 ((k:Int)+1),.int .i64 m.bal,.int .i64 m.ix,.int .i64 m.kn,.string m.text,.slice none 0 0] rfl rfl (by have h:=Ut (wr.alloc (.cells #[.int .i64 m.kind,.int .i64 r.num,.int .i64 ((k:Int)+1),.int .i64 m.bal,.int .i64 m.ix,.int .i64 m.kn,.string m.text,.slice none 0 0] 52)) [.int .i64 m.kind,.int .i64 r.num,.int .i64 ((k:Int)+1),.int .i64 m.bal,.int .i64 m.ix,.int .i64 m.kn,.string m.text,.slice none 0 0] 52;simpa using h) (by simp [Value.oneCell']) (by unfold maxLen;omega) (by omega) (by simp;omega) ?_;intro v' w2 hown2 hgrow2 hnil2 hat2;clear hnil2))
    have hg2:=hgrow2.size
    have BD2:=hid (BD1.out.app (x:=updF y9 n9 (toM r.num m k)) (ad':=none) (cap':=0) (b':=0) HAT.out (by rw [Zm];unfold toM;simp only [];rw [hm.out];exact hown2) hgrow2 hat2 (by rw [Zm];unfold toM;simp only [];rw [hm.out];exact ⟨fun h=>absurd h (Nat.lt_irrefl _),fun h=>absurd h (Nat.lt_irrefl _)⟩) (fun h0=>absurd (by rw [Zm];exact hm.out) h0) (fun h0=>absurd (by rw [Zm];exact hm.out) h0) (fun i _ _ h0=>absurd (by rw [Zm];exact hm.out) h0))
    have NS:Hid (∀ q,q<w.1.size+2→u1.ownBlock=some q→o.ownBlock=some q):=hid (fun q hq h=>(OW.out q h).elim id (fun h2=>absurd h2 (by omega)))
    have GF:=hid ((FrP.of_below (P:=fun q=>u1.ownBlock=some q) WB.out).trans (FrP.of_grown hgrow2))
    have OW2:Hid (∀ q,v'.ownBlock=some q→o.ownBlock=some q∨w.1.size+2≤q):=hid (fun q hq=>by
     rcases hat2 with h|h
     ·exact OW.out q (h▸hq)
     ·rw [h] at hq
      cases hq
      right
      simp
      omega)
    clear hgrow2 hat2 hown2 HAT HOWN
    go_wp2
    go_roundw
    case rel=>exact ⟨k+1,_,_,_,by omega,by go_num,X1.out.frP GF.out (fun h=>by have:=HOW.out _ (NS.out _ (by omega) h);omega),X2.out.frP GF.out (fun h=>by have:=HOW.out _ (NS.out _ (by omega) h);omega),by rw [HOT.out];exact BD2.out,FR.out.trans2 GF.out (fun q hq h=>NS.out q (by omega) h),OW2.out⟩
    case measure=>simp [intOf];omega
  ·have hke:k=f:=by omega
   subst hke
   go_wp2
   exact bodyPost_ret (v:=u1) (by simp [results,Tryz.results39,go_sem]) rfl ⟨_,rfl,⟨_,_,_,BD.out⟩,FR.out,fun q hq=>(OW.out q hq).imp id (fun h=>by omega)⟩
theorem apUd4 {P:Prop} (h:P:=by
  have IV2:=hid (HNO.out k wr hkn IV.out)
  rw [←hkn] at q0
  have HKN:=hid hkn
  clear hkn
  go_wp2
  go_roundw
  case rel=>exact ⟨k+1,to,HKF.out,by go_num,X1.out,X2.out,IV2⟩
  case measure=>have:=HKF.out;simp [intOf];omega):P:=h
set_option maxRecDepth 100000 in
theorem Ig (r:Rc) (RA:RcA) (m:Ms) (_hm0:m.n=0) (cap:Nat) (w:World) (ho0:0≤r.of) (ho1:r.of≤1000) (Inv:Nat→World→Prop)
  (h0:Inv 0 w) (hfr:∀ k X Y,w.1.size≤X.1.size→Inv k X→FrP (fun q=>w.1.size≤q∧q<w.1.size+2) X Y→Inv k Y)
  (hno:∀ (k:Nat) X,(k:Int)+1=r.num→Inv k X→Inv (k+1) X)
  (hyes:∀ (k:Nat) X,(k:Int)<r.of→¬(k:Int)+1=r.num→w.1.size+2≤X.1.size→Inv k X→Calls Tryz.prog 175 #[.agg #[.int .i64 m.kind,.int .i64 r.num,.int .i64 ((k:Int)+1),.int .i64 m.bal,.int .i64 m.ix,.int .i64 m.kn,.string m.text,.slice none 0 0],.pointer (some ⟨cap,0,none⟩)] X fun e w'=>e=.returned (.tuple #[])∧Inv (k+1) w'∧FrP (fun q=>q<w.1.size∨w.1.size+2≤q) X w') :
  Calls Tryz.prog 149 #[rcV r RA,.agg #[.int .i64 m.kind,.int .i64 m.from_,.int .i64 m.to,.int .i64 m.bal,.int .i64 m.ix,.int .i64 m.kn,.string m.text,.slice none 0 0],.func (.func 175) #[] #[.pointer (some ⟨cap,0,none⟩)]] w fun e w'=>e=.returned (.tuple #[])∧Inv r.of.toNat w':=by
 have hof:∃ f:Nat,r.of=(f:Int):=⟨r.of.toNat,by omega⟩
 obtain ⟨f,hf⟩:=hof
 have hfn:r.of.toNat=f:=by omega
 rw [hfn]
 have HF:=hid hf
 have hf1:f≤1000:=by omega
 obtain ⟨X1,X2⟩:=Bx.new2 w (rcC r RA) #[.int .i64 m.kind,.int .i64 r.num,.int .i64 m.to,.int .i64 m.bal,.int .i64 m.ix,.int .i64 m.kn,.string m.text,.slice none 0 0] 38 52
 have HX1:=hid X1
 have HX2:=hid X2
 have H0:=hid (hfr 0 w ((w.alloc (.cells (rcC r RA) 38)).alloc (.cells #[.int .i64 m.kind,.int .i64 r.num,.int .i64 m.to,.int .i64 m.bal,.int .i64 m.ix,.int .i64 m.kn,.string m.text,.slice none 0 0] 52)) (lrf _) h0 (FrP.of_below ((Zb _ _).alloc (by simp) _)))
 have HFR:=hid hfr
 have HNO:=hid hno
 have HYES:=hid hyes
 clear X1 X2 hfn hf _hm0 h0 hfr hno hyes
 go_enter Tryz.func149,Tryz.ntmps149
 go_wp2
 go_loopw [6] (fun i wr=>∃ (k:Nat) (to:Int),k≤f∧i=.int .i64 ((k:Int)+1)∧Bx wr w.1.size (rcC r RA)∧Bx wr (w.1.size+1) #[.int .i64 m.kind,.int .i64 r.num,.int .i64 to,.int .i64 m.bal,.int .i64 m.ix,.int .i64 m.kn,.string m.text,.slice none 0 0]∧Hid (Inv k wr)) (fun i _=>f+1-(intOf i).toNat)
 case atStart=>exact ⟨0,m.to,zle _,rfl,HX1.out,HX2.out,H0⟩
 case round=>
  clear HX1 HX2 H0
  obtain ⟨k,to,hk,rfl,x1,x2,IV⟩:=hrel
  have X1:=hid x1
  have hz:=x2.lt
  have hzS:=x1.lt
  have q0:wr.cell? ⟨w.1.size,0,none⟩=some (.int .i64 r.num):=x1.cell 0
  have q1:wr.cell? ⟨w.1.size,1,none⟩=some (.int .i64 r.of):=x1.cell 1
  have p0:wr.cell? ⟨w.1.size+1,0,none⟩=some (.int .i64 m.kind):=x2.cell 0
  have p1:wr.cell? ⟨w.1.size+1,1,none⟩=some (.int .i64 r.num):=x2.cell 1
  have p2:wr.cell? ⟨w.1.size+1,2,none⟩=some (.int .i64 to):=x2.cell 2
  have p3:wr.cell? ⟨w.1.size+1,3,none⟩=some (.int .i64 m.bal):=x2.cell 3
  have p4:wr.cell? ⟨w.1.size+1,4,none⟩=some (.int .i64 m.ix):=x2.cell 4
  have p5:wr.cell? ⟨w.1.size+1,5,none⟩=some (.int .i64 m.kn):=x2.cell 5
  have p6:wr.cell? ⟨w.1.size+1,6,none⟩=some (.string m.text):=x2.cell 6
  have p7:wr.cell? ⟨w.1.size+1,7,none⟩=some (.slice none 0 0):=x2.cell 7
  have pf:=x2.free 2
  have X2:=hid x2
  clear x1 x2
  rw [HF.out] at q1
  by_cases hkf:k<f
  ·have HKF:=hid hkf
   by_cases hkn:(k:Int)+1=r.num
   ·exact apUd4
   ·have X3:Hid (Bx (wr.setCell ⟨w.1.size+1,2,none⟩ (.int .i64 ((k:Int)+1))) (w.1.size+1) #[.int .i64 m.kind,.int .i64 r.num,.int .i64 ((k:Int)+1),.int .i64 m.bal,.int .i64 m.ix,.int .i64 m.kn,.string m.text,.slice none 0 0]):=hid (X2.out.to (X2.out.cell.set (i:=2) (by simp) _))
    have IV3:=hid (HFR.out k wr (wr.setCell ⟨w.1.size+1,2,none⟩ (.int .i64 ((k:Int)+1))) (by omega) IV.out (FrP.setCell (FrP.refl _ _) (p:=⟨w.1.size+1,2,none⟩) ⟨by show w.1.size≤w.1.size+1;omega,by show w.1.size+1<w.1.size+2;omega⟩ _))
    have HC:=hid (HYES.out k (wr.setCell ⟨w.1.size+1,2,none⟩ (.int .i64 ((k:Int)+1))) (by rw [HF.out];omega) hkn (by rw [World.size_setCell];omega) IV3.out)
    have X4:Hid (Bx (wr.setCell ⟨w.1.size+1,2,none⟩ (.int .i64 ((k:Int)+1))) w.1.size (rcC r RA)):=hid (X1.out.frP (FrP.setCell (P:=fun q=>q=w.1.size+1) (FrP.refl _ _) (p:=⟨w.1.size+1,2,none⟩) rfl _) (by omega))
    go_wp2_with (go_at_call 175;go_must (refine HC.out.mono ?_;rintro e w2 ⟨rfl,hi2,hf2⟩;have IV4:=hid hi2;have X5:=hid (X4.out.frP hf2 (by omega));have X6:=hid (X3.out.frP hf2 (by omega));clear hi2 hf2))
    go_roundw
    case rel=>exact ⟨k+1,(k:Int)+1,HKF.out,by go_num,X5.out,X6.out,IV4⟩
    case measure=>have:=HKF.out;simp [intOf];omega
  ·have hke:k=f:=by omega
   subst hke
   go_wp2
   exact bodyPost_end (results_none rfl _ _ _) rfl ⟨rfl,IV.out⟩
set_option maxRecDepth 100000 in
theorem NL (r:Rc) (RA:RcA) (m:Ms) (_hm0:m.n=0) (cap:Nat) (w:World) (ho0:0≤r.of) (ho1:r.of≤1000) (Inv:Nat→World→Prop)
  (h0:Inv 0 w) (hfr:∀ k X Y,w.1.size≤X.1.size→Inv k X→FrP (fun q=>w.1.size≤q∧q<w.1.size+2) X Y→Inv k Y)
  (hno:∀ (k:Nat) X,(k:Int)+1=r.num→Inv k X→Inv (k+1) X)
  (hyes:∀ (k:Nat) X,(k:Int)<r.of→¬(k:Int)+1=r.num→w.1.size+2≤X.1.size→Inv k X→Calls Tryz.prog 150 #[.agg #[.int .i64 m.kind,.int .i64 r.num,.int .i64 ((k:Int)+1),.int .i64 m.bal,.int .i64 m.ix,.int .i64 m.kn,.string m.text,.slice none 0 0],.pointer (some ⟨cap,0,none⟩)] X fun e w'=>e=.returned (.tuple #[])∧Inv (k+1) w'∧FrP (fun q=>q<w.1.size∨w.1.size+2≤q) X w') :
  Calls Tryz.prog 149 #[rcV r RA,.agg #[.int .i64 m.kind,.int .i64 m.from_,.int .i64 m.to,.int .i64 m.bal,.int .i64 m.ix,.int .i64 m.kn,.string m.text,.slice none 0 0],.func (.func 150) #[] #[.pointer (some ⟨cap,0,none⟩)]] w fun e w'=>e=.returned (.tuple #[])∧Inv r.of.toNat w':=by
 have hof:∃ f:Nat,r.of=(f:Int):=⟨r.of.toNat,by omega⟩
 obtain ⟨f,hf⟩:=hof
 have hfn:r.of.toNat=f:=by omega
 rw [hfn]
 have HF:=hid hf
 have hf1:f≤1000:=by omega
 obtain ⟨X1,X2⟩:=Bx.new2 w (rcC r RA) #[.int .i64 m.kind,.int .i64 r.num,.int .i64 m.to,.int .i64 m.bal,.int .i64 m.ix,.int .i64 m.kn,.string m.text,.slice none 0 0] 38 52
 have HX1:=hid X1
 have HX2:=hid X2
 have H0:=hid (hfr 0 w ((w.alloc (.cells (rcC r RA) 38)).alloc (.cells #[.int .i64 m.kind,.int .i64 r.num,.int .i64 m.to,.int .i64 m.bal,.int .i64 m.ix,.int .i64 m.kn,.string m.text,.slice none 0 0] 52)) (lrf _) h0 (FrP.of_below ((Zb _ _).alloc (by simp) _)))
 have HFR:=hid hfr
 have HNO:=hid hno
 have HYES:=hid hyes
 clear X1 X2 hfn hf _hm0 h0 hfr hno hyes
 go_enter Tryz.func149,Tryz.ntmps149
 go_wp2
 go_loopw [6] (fun i wr=>∃ (k:Nat) (to:Int),k≤f∧i=.int .i64 ((k:Int)+1)∧Bx wr w.1.size (rcC r RA)∧Bx wr (w.1.size+1) #[.int .i64 m.kind,.int .i64 r.num,.int .i64 to,.int .i64 m.bal,.int .i64 m.ix,.int .i64 m.kn,.string m.text,.slice none 0 0]∧Hid (Inv k wr)) (fun i _=>f+1-(intOf i).toNat)
 case atStart=>exact ⟨0,m.to,zle _,rfl,HX1.out,HX2.out,H0⟩
 case round=>
  clear HX1 HX2 H0
  obtain ⟨k,to,hk,rfl,x1,x2,IV⟩:=hrel
  have X1:=hid x1
  have hz:=x2.lt
  have hzS:=x1.lt
  have q0:wr.cell? ⟨w.1.size,0,none⟩=some (.int .i64 r.num):=x1.cell 0
  have q1:wr.cell? ⟨w.1.size,1,none⟩=some (.int .i64 r.of):=x1.cell 1
  have p0:wr.cell? ⟨w.1.size+1,0,none⟩=some (.int .i64 m.kind):=x2.cell 0
  have p1:wr.cell? ⟨w.1.size+1,1,none⟩=some (.int .i64 r.num):=x2.cell 1
  have p2:wr.cell? ⟨w.1.size+1,2,none⟩=some (.int .i64 to):=x2.cell 2
  have p3:wr.cell? ⟨w.1.size+1,3,none⟩=some (.int .i64 m.bal):=x2.cell 3
  have p4:wr.cell? ⟨w.1.size+1,4,none⟩=some (.int .i64 m.ix):=x2.cell 4
  have p5:wr.cell? ⟨w.1.size+1,5,none⟩=some (.int .i64 m.kn):=x2.cell 5
  have p6:wr.cell? ⟨w.1.size+1,6,none⟩=some (.string m.text):=x2.cell 6
  have p7:wr.cell? ⟨w.1.size+1,7,none⟩=some (.slice none 0 0):=x2.cell 7
  have pf:=x2.free 2
  have X2:=hid x2
  clear x1 x2
  rw [HF.out] at q1
  by_cases hkf:k<f
  ·have HKF:=hid hkf
   by_cases hkn:(k:Int)+1=r.num
   ·exact apUd4
   ·have X3:Hid (Bx (wr.setCell ⟨w.1.size+1,2,none⟩ (.int .i64 ((k:Int)+1))) (w.1.size+1) #[.int .i64 m.kind,.int .i64 r.num,.int .i64 ((k:Int)+1),.int .i64 m.bal,.int .i64 m.ix,.int .i64 m.kn,.string m.text,.slice none 0 0]):=hid (X2.out.to (X2.out.cell.set (i:=2) (by simp) _))
    have IV3:=hid (HFR.out k wr (wr.setCell ⟨w.1.size+1,2,none⟩ (.int .i64 ((k:Int)+1))) (by omega) IV.out (FrP.setCell (FrP.refl _ _) (p:=⟨w.1.size+1,2,none⟩) ⟨by show w.1.size≤w.1.size+1;omega,by show w.1.size+1<w.1.size+2;omega⟩ _))
    have HC:=hid (HYES.out k (wr.setCell ⟨w.1.size+1,2,none⟩ (.int .i64 ((k:Int)+1))) (by rw [HF.out];omega) hkn (by rw [World.size_setCell];omega) IV3.out)
    have X4:Hid (Bx (wr.setCell ⟨w.1.size+1,2,none⟩ (.int .i64 ((k:Int)+1))) w.1.size (rcC r RA)):=hid (X1.out.frP (FrP.setCell (P:=fun q=>q=w.1.size+1) (FrP.refl _ _) (p:=⟨w.1.size+1,2,none⟩) rfl _) (by omega))
    go_wp2_with (go_at_call 150;go_must (refine HC.out.mono ?_;rintro e w2 ⟨rfl,hi2,hf2⟩;have IV4:=hid hi2;have X5:=hid (X4.out.frP hf2 (by omega));have X6:=hid (X3.out.frP hf2 (by omega));clear hi2 hf2))
    go_roundw
    case rel=>exact ⟨k+1,(k:Int)+1,HKF.out,by go_num,X5.out,X6.out,IV4⟩
    case measure=>have:=HKF.out;simp [intOf];omega
  ·have hke:k=f:=by omega
   subst hke
   go_wp2
   exact bodyPost_end (results_none rfl _ _ _) rfl ⟨rfl,IV.out⟩
def sentG (T:Nat) (r:Rc) (p:RcP) (m:Ms) (adm:Option Addr) (capm hbm:Nat) (W:World) (i:Nat) (v:Value) (X:World):Prop:=
 match i with
 | 0=>v=.pointer (some ⟨T,0,none⟩)
 | 1=>v=.pointer (some ⟨T,0,none⟩)
 | 2=>v=.pointer (some ⟨T,0,none⟩)
 | 3=>v=.pointer (some ⟨T,1,none⟩)
 | 4=>v=.slice p.A.ha r.hn p.A.hc
 | 5=>v=.agg (msL (msF r m) adm capm).toArray
 | 6=>∃ b2,v=.slice (some ⟨b2,0,none⟩) 1 1∧W.1.size≤b2∧b2<X.1.size∧SrcRow X b2 (b2+1) (some ⟨b2,0,none⟩) (1*8) (msD (msF r m) adm capm)
 | 7=>∃ ad' cap' g',v=.slice ad' (r.hn+1) cap'∧RcG X (Yk r m) (Yn p r.hn ad' cap' g' adm capm hbm)∧(∀ k,rbs (Yn p r.hn ad' cap' g' adm capm hbm) (Yk r m) k→rbs p r k∨(m.n≠0∧k=hbm)∨W.1.size≤k)
 | 8=>v=.pointer (some ⟨T,0,none⟩)
 | 9=>v=.pointer (some ⟨T,1,none⟩)
 | _=>True
set_option maxRecDepth 100000 in
theorem E6 (p0 v0 v1 v2 v3 v4 v5 v6 v7 v8 v9:Value) (q mb:Nat) (T:Nat) (r:Rc) (p:RcP) (m:Ms) (adm:Option Addr) (capm hbm:Nat) (W:World) (B:Nat) (hbx:Bx W T #[.pointer (some ⟨B,0,none⟩),.slice p.A.ha r.hn p.A.hc]) (hmb:Bx W mb (msL (msF r m) adm capm).toArray) (hq:q<W.1.size) (hqc:W.cell? ⟨q,0,none⟩=some (.pointer (some ⟨T,0,none⟩))) (hg:RcG W r p) (hn:(r.hn:Int)≤1000000) (hB:∀ k,rbs p r k→k≠T∧k≠q∧k≠mb) (hm:SlsAt W adm hbm m.n m.s) (hml:m.n≠0→hbm<W.1.size∧¬rbs p r hbm) (Q:Exit→Act→World→Prop)
  (hQ:∀ (t:Nat→Value) (ad':Option Addr) (cap' g':Nat) (Y:World),RcG Y (Yk r m) (Yn p r.hn ad' cap' g' adm capm hbm)→(∀ k,rbs (Yn p r.hn ad' cap' g' adm capm hbm) (Yk r m) k→rbs p r k∨(m.n≠0∧k=hbm)∨W.1.size≤k)→FrP (fun k=>r.hn≠0∧k=p.g2) W Y→Q .normal ⟨#[p0,.pointer (some ⟨q,0,none⟩),.pointer (some ⟨mb,0,none⟩),t 0,t 1,t 2,t 3,t 4,t 5,t 6,t 7,t 8,t 9],[]⟩ (Y.setCell ⟨T,1,none⟩ (.slice ad' (r.hn+1) cap'))) :
  Code.wp Tryz.prog (Code.region 1 #[⟨some 3,.load 125 (.tmp 1),125,GH,#[],none⟩,⟨some 4,.load 125 (.tmp 1),125,GH,#[],none⟩,⟨some 5,.nilCheck (.tmp 4),0,GH,#[⟨1,.data⟩],none⟩,⟨some 6,.fieldAddr 122 (.tmp 5) 1,0,GH,#[⟨2,.data⟩],none⟩,⟨some 7,.load 35 (.tmp 6),35,GH,#[⟨3,.data⟩],none⟩,⟨some 8,.load 52 (.tmp 2),52,GH,#[],none⟩,⟨some 9,.buildSlice 35 1 #[(0,.tmp 8)],35,GH,#[⟨5,.data⟩],none⟩,⟨some 10,.call ⟨.builtin .append,#[.tmp 7,.tmp 9],#[35,35]⟩,35,GH,#[⟨4,.data⟩,⟨6,.data⟩],none⟩,⟨some 11,.nilCheck (.tmp 3),0,GH,#[⟨0,.data⟩,⟨0,.phase⟩,⟨1,.phase⟩,⟨2,.phase⟩,⟨3,.phase⟩,⟨4,.phase⟩,⟨5,.phase⟩,⟨6,.phase⟩,⟨7,.phase⟩],none⟩,⟨some 12,.fieldAddr 122 (.tmp 11) 1,0,GH,#[⟨8,.data⟩,⟨0,.phase⟩,⟨1,.phase⟩,⟨2,.phase⟩,⟨3,.phase⟩,⟨4,.phase⟩,⟨5,.phase⟩,⟨6,.phase⟩,⟨7,.phase⟩],none⟩,⟨none,.store 35 (.tmp 12) (.tmp 10),0,GH,#[⟨9,.data⟩,⟨7,.data⟩,⟨7,.chain⟩,⟨0,.phase⟩,⟨1,.phase⟩,⟨2,.phase⟩,⟨3,.phase⟩,⟨4,.phase⟩,⟨5,.phase⟩,⟨6,.phase⟩,⟨7,.phase⟩],none⟩] true) Q ⟨#[p0,.pointer (some ⟨q,0,none⟩),.pointer (some ⟨mb,0,none⟩),v0,v1,v2,v3,v4,v5,v6,v7,v8,v9],[]⟩ W:=by
 have g2in:r.hn≠0→rbs p r p.g2:=fun h0=>⟨2,by omega,Or.inl ⟨Nat.pos_of_ne_zero h0,rfl⟩⟩
 have g2lt:r.hn≠0→p.g2<W.1.size:=fun h0=>hg.at_.lt _ (g2in h0)
 have nq:¬(r.hn≠0∧q=p.g2):=fun e=>(hB _ (g2in e.1)).2.1 e.2.symm
 have nB:¬(r.hn≠0∧T=p.g2):=fun e=>(hB _ (g2in e.1)).1 e.2.symm
 have nM:¬(r.hn≠0∧mb=p.g2):=fun e=>(hB _ (g2in e.1)).2.2 e.2.symm
 have lB:=hbx.lt
 have lM:=hmb.lt
 have h9:W.cell? ⟨T,1,none⟩=some (.slice p.A.ha r.hn p.A.hc):=hbx.cell 1
 refine Ip (by kernel_rfl) 10 7 (by omega) (fun X Y=>FrP (fun k=>r.hn≠0∧k=p.g2) X Y) (fun X Y h=>FrP.of_below h) (fun X Y Z h1 h2=>h1.trans h2) (fun t:Nat→Value=>#[p0,.pointer (some ⟨q,0,none⟩),.pointer (some ⟨mb,0,none⟩),t 0,t 1,t 2,t 3,t 4,t 5,t 6,t 7,t 8,t 9]) (fun j=>match j with|0=>v0|1=>v1|2=>v2|3=>v3|4=>v4|5=>v5|6=>v6|7=>v7|8=>v8|_=>v9) (sentG T r p m adm capm hbm W) (fun a X=>∃ (t:Nat→Value) (ad':Option Addr) (cap' g':Nat) (Y:World),a=⟨#[p0,.pointer (some ⟨q,0,none⟩),.pointer (some ⟨mb,0,none⟩),t 0,t 1,t 2,t 3,t 4,t 5,t 6,t 7,t 8,t 9],[]⟩∧X=Y.setCell ⟨T,1,none⟩ (.slice ad' (r.hn+1) cap')∧RcG Y (Yk r m) (Yn p r.hn ad' cap' g' adm capm hbm)∧(∀ k,rbs (Yn p r.hn ad' cap' g' adm capm hbm) (Yk r m) k→rbs p r k∨(m.n≠0∧k=hbm)∨W.1.size≤k)∧FrP (fun k=>r.hn≠0∧k=p.g2) W Y) (by kernel_rfl) (by kernel_rfl) (by kernel_rfl) ?_ ?_ rfl ?_ ?_ ?_ ?_
 ·intro i v X Y hi1 h hb
  rcases (show i=0∨i=1∨i=2∨i=3∨i=4∨i=5∨i=6∨i=7∨i=8∨i=9 by omega) with rfl|rfl|rfl|rfl|rfl|rfl|rfl|rfl|rfl|rfl
  ·exact h
  ·exact h
  ·exact h
  ·exact h
  ·exact h
  ·exact h
  ·obtain ⟨b2,e1,e2,e3,e4⟩:=h
   exact ⟨b2,e1,e2,ltl e3 hb.size,e4.below hb (by omega)⟩
  ·obtain ⟨ad',cap',g',e1,e2,e3⟩:=h
   exact ⟨ad',cap',g',e1,e2.grow hb,e3⟩
  ·exact h
  ·exact h
 ·intro i v X Y hi1 hi7 h hb
  rcases (show i=0∨i=1∨i=2∨i=3∨i=4∨i=5∨i=6∨i=7∨i=8∨i=9 by omega) with rfl|rfl|rfl|rfl|rfl|rfl|rfl|rfl|rfl|rfl
  ·exact h
  ·exact h
  ·exact h
  ·exact h
  ·exact h
  ·exact h
  ·obtain ⟨b2,e1,e2,e3,e4⟩:=h
   exact ⟨b2,e1,e2,ltl e3 hb.size,⟨fun j hj=>by
    obtain ⟨b,off,c1,c2,c3,c4⟩:=e4.at_ j hj
    exact ⟨b,off,c1,c2,c3,(hb.cell (p:=⟨b,off+j,none⟩) (show b<X.1.size by omega) (fun e=>by have:=g2lt e.1;have e5:b=p.g2:=e.2;omega)).trans c4⟩,e4.one⟩⟩
  ·exact absurd rfl hi7
  ·exact h
  ·exact h
 ·intro t X K hb hg1 hK
  have e4:t 4=.slice p.A.ha r.hn p.A.hc:=hg1 4 (Wt rfl)
  obtain ⟨b2,e6,k1,k2,k3⟩:∃ b2,t 6=.slice (some ⟨b2,0,none⟩) 1 1∧W.1.size≤b2∧b2<X.1.size∧SrcRow X b2 (b2+1) (some ⟨b2,0,none⟩) (1*8) (msD (msF r m) adm capm):=hg1 6 (Wt rfl)
  obtain ⟨ad',cap',g',w4,hrun,hG4,hF4,hK4⟩:=KJ X r p m adm capm hbm b2 (msD (msF r m) adm capm) (hg.grow hb) (by omega) k3 (Iw _ _ _) (hm.grow hb) (fun h0=>⟨ltl (hml h0).1 hb.size,(hml h0).2⟩)
  have h:=hK (.slice ad' (r.hn+1) cap') w4 ⟨ad',cap',g',rfl,hG4,fun k hk=>by
   rcases hK4 k hk with h|h|h
   ·exact Or.inl h
   ·exact Or.inr (Or.inl h)
   ·exact Or.inr (Or.inr (ltr hb.size h))⟩ hF4
  exact YG rfl rfl _ _ 35 35 rfl _ _ _ _ e4 e6 hrun h
 ·intro i hi1 hi7 t X K hb hg1 hK
  rcases (show i=0∨i=1∨i=2∨i=3∨i=4∨i=5∨i=6∨i=7∨i=8∨i=9 by omega) with rfl|rfl|rfl|rfl|rfl|rfl|rfl|rfl|rfl|rfl
  ·have f1:=(hb.cell (p:=⟨q,0,none⟩) hq nq).trans hqc
   have h:=hK _ X rfl (br _ _)
   refine Zi rfl rfl ?_
   clear hK hg1
   go_simp
   simpa [updT] using h
  ·have f1:=(hb.cell (p:=⟨q,0,none⟩) hq nq).trans hqc
   have h:=hK _ X rfl (br _ _)
   refine Zi rfl rfl ?_
   clear hK hg1
   go_simp
   simpa [updT] using h
  ·have e1:t 1=.pointer (some ⟨T,0,none⟩):=hg1 1 (Wt rfl)
   have h:=hK _ X rfl (br _ _)
   refine Zi rfl rfl ?_
   clear hK hg1
   go_simp
   simpa [updT,e1] using h
  ·have e2:t 2=.pointer (some ⟨T,0,none⟩):=hg1 2 (Wt rfl)
   have h:=hK _ X rfl (br _ _)
   refine Zi rfl rfl ?_
   clear hK hg1
   go_simp
   simpa [updT,e2] using h
  ·have e3:t 3=.pointer (some ⟨T,1,none⟩):=hg1 3 (Wt rfl)
   have f1:=(hb.cell (p:=⟨T,1,none⟩) lB nB).trans h9
   have h:=hK _ X rfl (br _ _)
   refine Zi rfl rfl ?_
   clear hK hg1
   go_simp
   simpa [updT,e3] using h
  ·have x0:X.cell? ⟨mb,0,none⟩=some (.int .i64 m.kind):=(hb.cell (p:=⟨mb,0,none⟩) lM nM).trans (hmb.cell 0)
   have x1:X.cell? ⟨mb,1,none⟩=some (.int .i64 r.num):=(hb.cell (p:=⟨mb,1,none⟩) lM nM).trans (hmb.cell 1)
   have x2:X.cell? ⟨mb,2,none⟩=some (.int .i64 m.to):=(hb.cell (p:=⟨mb,2,none⟩) lM nM).trans (hmb.cell 2)
   have x3:X.cell? ⟨mb,3,none⟩=some (.int .i64 m.bal):=(hb.cell (p:=⟨mb,3,none⟩) lM nM).trans (hmb.cell 3)
   have x4:X.cell? ⟨mb,4,none⟩=some (.int .i64 m.ix):=(hb.cell (p:=⟨mb,4,none⟩) lM nM).trans (hmb.cell 4)
   have x5:X.cell? ⟨mb,5,none⟩=some (.int .i64 m.kn):=(hb.cell (p:=⟨mb,5,none⟩) lM nM).trans (hmb.cell 5)
   have x6:X.cell? ⟨mb,6,none⟩=some (.string m.text):=(hb.cell (p:=⟨mb,6,none⟩) lM nM).trans (hmb.cell 6)
   have x7:X.cell? ⟨mb,7,none⟩=some (.slice adm m.n capm):=(hb.cell (p:=⟨mb,7,none⟩) lM nM).trans (hmb.cell 7)
   have h:=hK _ X rfl (br _ _)
   refine Zi rfl rfl ?_
   clear hK hg1
   go_simp
   simpa [updT] using h
  ·have e5:t 5=.agg (msL (msF r m) adm capm).toArray:=hg1 5 (Wt rfl)
   have zb:W.1.size≤X.1.size:=hb.size
   have h:=hK (.slice (some ⟨X.1.size,0,none⟩) 1 1) (X.alloc (.cells (msL (msF r m) adm capm).toArray 52)) ⟨X.1.size,rfl,zb,by simp,Pk X (msF r m) adm capm⟩ (Zb _ _)
   refine Zi rfl rfl ?_
   clear hK hg1
   go_simp
   simpa [updT,e5] using h
  ·exact absurd rfl hi7
  ·have e0:t 0=.pointer (some ⟨T,0,none⟩):=hg1 0 (Wt rfl)
   have h:=hK _ X rfl (br _ _)
   refine Zi rfl rfl ?_
   clear hK hg1
   go_simp
   simpa [updT,e0] using h
  ·have e8:t 8=.pointer (some ⟨T,0,none⟩):=hg1 8 (Wt rfl)
   have h:=hK _ X rfl (br _ _)
   refine Zi rfl rfl ?_
   clear hK hg1
   go_simp
   simpa [updT,e8] using h
 ·intro t X K hb hg1 hK
  have e9:t 9=.pointer (some ⟨T,1,none⟩):=hg1 9 (by omega)
  obtain ⟨ad',cap',g',e7,k1,k2⟩:∃ ad' cap' g',t 7=.slice ad' (r.hn+1) cap'∧RcG X (Yk r m) (Yn p r.hn ad' cap' g' adm capm hbm)∧(∀ k,rbs (Yn p r.hn ad' cap' g' adm capm hbm) (Yk r m) k→rbs p r k∨(m.n≠0∧k=hbm)∨W.1.size≤k):=hg1 7 (by omega)
  have f1:=(hb.cell (p:=⟨T,1,none⟩) lB nB).trans h9
  have f2:=(hb.frozen (p:=⟨T,1,none⟩) lB nB).trans (hbx.free 1)
  have h:=hK ⟨#[p0,.pointer (some ⟨q,0,none⟩),.pointer (some ⟨mb,0,none⟩),t 0,t 1,t 2,t 3,t 4,t 5,t 6,t 7,t 8,t 9],[]⟩ (X.setCell ⟨T,1,none⟩ (.slice ad' (r.hn+1) cap')) ⟨t,ad',cap',g',X,rfl,rfl,k1,k2,hb⟩
  refine Zi rfl rfl ?_
  clear hK hg1
  go_simp
  simpa [e9,e7] using h
 ·rintro a X ⟨t,ad',cap',g',Y,rfl,rfl,k1,k2,k3⟩
  exact hQ t ad' cap' g' Y k1 k2 k3
set_option maxRecDepth 100000 in
theorem sent_do (r:Rc) (p:RcP) (m:Ms) (hmn:m.n=0) (hmf:m.from_=r.num) (T B q:Nat) (w:World) (hbx:Bx w T #[.pointer (some ⟨B,0,none⟩),.slice p.A.ha r.hn p.A.hc]) (hq:q<w.1.size) (hqc:w.cell? ⟨q,0,none⟩=some (.pointer (some ⟨T,0,none⟩))) (hg:RcG w r p) (hn:(r.hn:Int)≤1000000) (hB:∀ k,rbs p r k→k≠T∧k≠q) :
  Calls Tryz.prog 175 #[.agg #[.int .i64 m.kind,.int .i64 r.num,.int .i64 m.to,.int .i64 m.bal,.int .i64 m.ix,.int .i64 m.kn,.string m.text,.slice none 0 0],.pointer (some ⟨q,0,none⟩)] w fun e w'=>e=.returned (.tuple #[])∧∃ p',Bx w' T #[.pointer (some ⟨B,0,none⟩),.slice p'.A.ha (r.hn+1) p'.A.hc]∧RcG w' (Yk r m) p'∧FrP (fun k=>k=T∨(r.hn≠0∧k=p.g2)) w w'∧(∀ k,rbs p' (Yk r m) k→rbs p r k∨w.1.size≤k):=by
 have eM:(msL (msF r m) none 0)=[.int .i64 m.kind,.int .i64 r.num,.int .i64 m.to,.int .i64 m.bal,.int .i64 m.ix,.int .i64 m.kn,.string m.text,.slice none 0 0]:=by simp [hmn]
 have HBX:=hid hbx
 have HBL:=hbx.lt
 have HQC:=hid hqc
 have HG:=hid hg
 have HLT:=hid hg.at_.lt
 have HB:=hid hB
 have M0:=hid (show Bx (w.alloc (.cells #[.int .i64 m.kind,.int .i64 r.num,.int .i64 m.to,.int .i64 m.bal,.int .i64 m.ix,.int .i64 m.kn,.string m.text,.slice none 0 0] 52)) w.1.size (msL (msF r m) none 0).toArray by rw [eM];exact Bx.new w _ 52)
 have HMN:=hid hmn
 have HMF:=hid hmf
 have HN:=hid hn
 clear hbx hqc hg hB eM hmn hmf hn
 go_enter Tryz.func175,Tryz.ntmps175
 have hB0:=Zb w (.cells #[.int .i64 m.kind,.int .i64 r.num,.int .i64 m.to,.int .i64 m.bal,.int .i64 m.ix,.int .i64 m.kn,.string m.text,.slice none 0 0] 52)
 have zS:w.1.size<(w.alloc (.cells #[.int .i64 m.kind,.int .i64 r.num,.int .i64 m.to,.int .i64 m.bal,.int .i64 m.ix,.int .i64 m.kn,.string m.text,.slice none 0 0] 52)).1.size:=by simp
 go_wp2
 (generalize (w.alloc (.cells #[.int .i64 m.kind,.int .i64 r.num,.int .i64 m.to,.int .i64 m.bal,.int .i64 m.ix,.int .i64 m.kn,.string m.text,.slice none 0 0] 52))=W at *)
 have ltB:∀ k,rbs p r k→k<w.1.size:=HLT.out
 refine E6 _ _ _ _ _ _ _ _ _ _ _ q w.1.size T r p m none 0 0 W B (HBX.out.below hB0 HBL) M0.out (by omega) ((hB0.cell (p:=⟨q,0,none⟩) hq).trans HQC.out) (HG.out.grow hB0) HN.out (fun k hk=>⟨(HB.out k hk).1,(HB.out k hk).2,by have:=ltB k hk;omega⟩) (by rw [HMN.out];exact ⟨fun h=>absurd h (Nat.lt_irrefl _),fun h=>absurd h (Nat.lt_irrefl _)⟩) (fun h0=>absurd HMN.out h0) _ ?_
 intro t ad' cap' g' Y kG kB kF
 have kB2:∀ k,rbs (Yn p r.hn ad' cap' g' none 0 0) (Yk r m) k→rbs p r k∨w.1.size<k:=fun k hk=>by
  rcases kB k hk with h|h|h
  ·exact Or.inl h
  ·exact absurd HMN.out h.1
  ·exact Or.inr (by omega)
 have nB:¬(r.hn≠0∧T=p.g2):=fun e=>(HB.out _ ⟨2,by omega,Or.inl ⟨Nat.pos_of_ne_zero e.1,rfl⟩⟩).1 e.2.symm
 have BY:Bx Y T #[.pointer (some ⟨B,0,none⟩),.slice p.A.ha r.hn p.A.hc]:=(HBX.out.below hB0 HBL).frP kF nB
 have fB:=(FrP.refl (fun k=>k=T) Y).setCell (p:=⟨T,1,none⟩) rfl (.slice ad' (r.hn+1) cap')
 have R1:Bx (Y.setCell ⟨T,1,none⟩ (.slice ad' (r.hn+1) cap')) T #[.pointer (some ⟨B,0,none⟩),.slice ad' (r.hn+1) cap']:=BY.to (BY.cell.set (i:=1) (by simp) _)
 refine bodyPost_end (results_none rfl _ _ _) rfl ⟨rfl,Yn p r.hn ad' cap' g' none 0 0,R1,kG.fr fB (fun k hk e=>?_),?_,fun k hk=>?_⟩
 ·rcases kB2 k hk with h|h
  ·exact (HB.out k h).1 e
  ·omega
 ·exact (FrP.of_below (P:=fun k=>k=T∨(r.hn≠0∧k=p.g2)) hB0).trans ((kF.mono (fun k hk=>Or.inr hk)).trans (fB.mono (fun k hk=>Or.inl hk)))
 ·rcases kB2 k hk with h|h
  ·exact Or.inl h
  ·exact Or.inr (by omega)
def EW (qb _mb T B:Nat) (m:Ms) (r:Rc) (p:RcP) (_sv:Value) (_R:World→Prop) (_W:World) (i:Nat) (v:Value) (_X:World):Prop:=
 match i with
 | 0=>v=.pointer (some ⟨T,0,none⟩)
 | 1=>v=.pointer (some ⟨T,0,none⟩)
 | 2=>v=.pointer (some ⟨T,0,none⟩)
 | 3=>v=.pointer (some ⟨B,0,none⟩)
 | 4=>v=.pointer (some ⟨B,0,none⟩)
 | 5=>v=.agg (rcC r p.A)
 | 6=>v=.agg #[.int .i64 m.kind,.int .i64 m.from_,.int .i64 m.to,.int .i64 m.bal,.int .i64 m.ix,.int .i64 m.kn,.string m.text,.slice none 0 0]
 | 7=>v=.func (.func 175) #[] #[.pointer (some ⟨qb,0,none⟩)]
 | _=>True
set_option maxRecDepth 100000 in
theorem stoReg1 (p0 p1 za:Value) (w0 w1 w2 w3 w4 w5 w6 w7:Value) (qb mb T B:Nat) (m:Ms) (r:Rc) (p:RcP) (sv:Value) (R:World→Prop) (W:World) (hql:qb<W.1.size) (hqc:W.cell? ⟨qb,0,none⟩=some (.pointer (some ⟨T,0,none⟩))) (hT:Bx W T #[.pointer (some ⟨B,0,none⟩),sv]) (hB:Bx W B (rcC r p.A)) (hM:Bx W mb #[.int .i64 m.kind,.int .i64 m.from_,.int .i64 m.to,.int .i64 m.bal,.int .i64 m.ix,.int .i64 m.kn,.string m.text,.slice none 0 0]) (hQc:∀ X,Below W.1.size W X→Calls Tryz.prog 149 #[rcV r p.A,.agg #[.int .i64 m.kind,.int .i64 m.from_,.int .i64 m.to,.int .i64 m.bal,.int .i64 m.ix,.int .i64 m.kn,.string m.text,.slice none 0 0],.func (.func 175) #[] #[.pointer (some ⟨qb,0,none⟩)]] X fun e w'=>e=.returned (.tuple #[])∧R w') (Q:Exit→Act→World→Prop) (hQ:∀ (t:Nat→Value) (v3:Value) X,R X→Q .normal ⟨#[p0,p1,.pointer (some ⟨qb,0,none⟩),.pointer (some ⟨mb,0,none⟩),t 0,t 1,t 2,t 3,t 4,t 5,t 6,t 7,v3],[]⟩ X) :
  Code.wp Tryz.prog (Code.region 1 #[⟨some 4,.load 125 (.tmp 2),125,GH,#[],none⟩,⟨some 5,.nilCheck (.tmp 4),0,GH,#[⟨0,.data⟩],none⟩,⟨some 6,.fieldAddr 122 (.tmp 5) 0,0,GH,#[⟨1,.data⟩],none⟩,⟨some 7,.load 81 (.tmp 6),81,GH,#[⟨2,.data⟩],none⟩,⟨some 8,.nilCheck (.tmp 7),0,GH,#[⟨3,.data⟩],none⟩,⟨some 9,.load 38 (.tmp 8),38,GH,#[⟨4,.data⟩],none⟩,⟨some 10,.load 52 (.tmp 3),52,GH,#[],none⟩,⟨some 11,.makeFunc (Fn.func 175) #[] #[.tmp 2],131,GH,#[],none⟩,⟨some 12,.call ⟨.value (.func 149),#[.tmp 9,.tmp 10,.tmp 11],#[38,52,131]⟩,0,GH,#[⟨5,.data⟩,⟨6,.data⟩,⟨7,.data⟩],none⟩] true) Q ⟨#[p0,p1,.pointer (some ⟨qb,0,none⟩),.pointer (some ⟨mb,0,none⟩),w0,w1,w2,w3,w4,w5,w6,w7,za],[]⟩ W:=by
 refine ZL (by kernel_rfl) 8 (fun t:Nat→Value=>#[p0,p1,.pointer (some ⟨qb,0,none⟩),.pointer (some ⟨mb,0,none⟩),t 0,t 1,t 2,t 3,t 4,t 5,t 6,t 7,za]) (fun i=>match i with|0=>w0|1=>w1|2=>w2|3=>w3|4=>w4|5=>w5|6=>w6|_=>w7) (EW qb mb T B m r p sv R W) (fun a X=>∃ (t:Nat→Value) (v3:Value),a=⟨#[p0,p1,.pointer (some ⟨qb,0,none⟩),.pointer (some ⟨mb,0,none⟩),t 0,t 1,t 2,t 3,t 4,t 5,t 6,t 7,v3],[]⟩∧R X) (by kernel_rfl) (by kernel_rfl) (by kernel_rfl) ?_ rfl ?_ ?_ ?_
 ·exact fun _ _ _ _ _ h _=>h
 ·intro i hi t X K hb hg hK
  rcases (show i=0∨i=1∨i=2∨i=3∨i=4∨i=5∨i=6∨i=7 by omega) with rfl|rfl|rfl|rfl|rfl|rfl|rfl|rfl
  ·have f1:=(hb.cell (p:=⟨qb,0,none⟩) hql).trans hqc
   have h:=hK _ X rfl (br _ _)
   refine Zi rfl rfl ?_
   clear hK hg
   go_simp
   simpa [updT] using h
  ·have e0:t 0=.pointer (some ⟨T,0,none⟩):=hg 0 (Wt rfl)
   have h:=hK _ X rfl (br _ _)
   refine Zi rfl rfl ?_
   clear hK hg
   go_simp
   simpa [updT,e0] using h
  ·have e1:t 1=.pointer (some ⟨T,0,none⟩):=hg 1 (Wt rfl)
   have h:=hK _ X rfl (br _ _)
   refine Zi rfl rfl ?_
   clear hK hg
   go_simp
   simpa [updT,e1] using h
  ·have e2:t 2=.pointer (some ⟨T,0,none⟩):=hg 2 (Wt rfl)
   have f1:=(hb.cell (p:=⟨T,0,none⟩) hT.lt).trans (hT.cell 0)
   have h:=hK _ X rfl (br _ _)
   refine Zi rfl rfl ?_
   clear hK hg
   go_simp
   simpa [updT,e2] using h
  ·have e3:t 3=.pointer (some ⟨B,0,none⟩):=hg 3 (Wt rfl)
   have h:=hK _ X rfl (br _ _)
   refine Zi rfl rfl ?_
   clear hK hg
   go_simp
   simpa [updT,e3] using h
  ·have e4:t 4=.pointer (some ⟨B,0,none⟩):=hg 4 (Wt rfl)
   exact Zi rfl rfl (wp_load_mid 38 _ rfl B 0 (by simp only [Act.eval];simpa using e4) (rcC r p.A).toList _ (Holds.range (cs:=(rcC r p.A).toList) (hB.below hb hB.lt).cell) Tryz.underlying38 rfl Tryz.sz38 (hK (.agg (rcC r p.A)) X rfl (br _ _)))
  ·have x0:X.cell? ⟨mb,0,none⟩=some (.int .i64 m.kind):=(hb.cell (p:=⟨mb,0,none⟩) hM.lt).trans (hM.cell 0)
   have x1:X.cell? ⟨mb,1,none⟩=some (.int .i64 m.from_):=(hb.cell (p:=⟨mb,1,none⟩) hM.lt).trans (hM.cell 1)
   have x2:X.cell? ⟨mb,2,none⟩=some (.int .i64 m.to):=(hb.cell (p:=⟨mb,2,none⟩) hM.lt).trans (hM.cell 2)
   have x3:X.cell? ⟨mb,3,none⟩=some (.int .i64 m.bal):=(hb.cell (p:=⟨mb,3,none⟩) hM.lt).trans (hM.cell 3)
   have x4:X.cell? ⟨mb,4,none⟩=some (.int .i64 m.ix):=(hb.cell (p:=⟨mb,4,none⟩) hM.lt).trans (hM.cell 4)
   have x5:X.cell? ⟨mb,5,none⟩=some (.int .i64 m.kn):=(hb.cell (p:=⟨mb,5,none⟩) hM.lt).trans (hM.cell 5)
   have x6:X.cell? ⟨mb,6,none⟩=some (.string m.text):=(hb.cell (p:=⟨mb,6,none⟩) hM.lt).trans (hM.cell 6)
   have x7:X.cell? ⟨mb,7,none⟩=some (.slice none 0 0):=(hb.cell (p:=⟨mb,7,none⟩) hM.lt).trans (hM.cell 7)
   have h:=hK _ X rfl (br _ _)
   refine Zi rfl rfl ?_
   clear hK hg
   go_simp
   simpa [updT] using h
  ·have h:=hK _ X rfl (br _ _)
   refine Zi rfl rfl ?_
   clear hK hg
   go_simp
   simpa [updT] using h
 ·intro t X K hb hg hK
  have e5:t 5=.agg (rcC r p.A):=hg 5 (by omega)
  have e6:t 6=.agg #[.int .i64 m.kind,.int .i64 m.from_,.int .i64 m.to,.int .i64 m.bal,.int .i64 m.ix,.int .i64 m.kn,.string m.text,.slice none 0 0]:=hg 6 (by omega)
  have e7:t 7=.func (.func 175) #[] #[.pointer (some ⟨qb,0,none⟩)]:=hg 7 (by omega)
  refine Zi rfl rfl ?_
  have HK:=hid hK
  have HC:=hid (hQc X hb)
  clear hK hg hQc
  simp only [e5,e6,e7]
  go_simp
  go_at_call 149
  refine HC.out.mono ?_
  rintro e Y ⟨rfl,hR⟩
  have h:=HK.out _ Y ⟨t,.tuple #[],rfl,hR⟩
  simpa [e5,e6,e7] using h
 ·rintro a X ⟨t,v3,rfl,hp⟩
  exact hQ t v3 X hp
def XB (num:Int) (m:Ms):Nat→Rc→Rc
 | 0,s=>s
 | k+1,s=>if (k:Int)+1=num then XB num m k s else Yk (XB num m k s) (toM num m k)
theorem Uo (num:Int) (m:Ms) (s:Rc):∀ k,(XB num m k s).num=s.num
 | 0=>rfl
 | k+1=>by
  rw [XB]
  split
  ·exact Uo num m s k
  ·exact Uo num m s k
theorem Np (num:Int) (m:Ms) (s:Rc):∀ k,(XB num m k s).hn≤s.hn+k
 | 0=>lrf _
 | k+1=>by
  have:=Np num m s k
  rw [XB]
  split
  ·omega
  ·show (XB num m k s).hn+1≤_
   omega
set_option maxRecDepth 100000 in
theorem NN (r:Rc) (p:RcP) (s:Rc) (ps:RcP) (m:Ms) (hmn:m.n=0) (T B:Nat) (w:World) (ho0:0≤r.of) (ho1:r.of≤1000) (hsn:s.hn≤100000) (hnum:s.num=r.num) (hT:Bx w T #[.pointer (some ⟨B,0,none⟩),.slice ps.A.ha s.hn ps.A.hc]) (hB:Bx w B (rcC r p.A)) (hg:RcG w s ps) (hs:∀ k,rbs ps s k→k≠T) :
  Calls Tryz.prog 166 #[.pointer (some ⟨T,0,none⟩),.agg #[.int .i64 m.kind,.int .i64 m.from_,.int .i64 m.to,.int .i64 m.bal,.int .i64 m.ix,.int .i64 m.kn,.string m.text,.slice none 0 0]] w fun e w'=>e=.returned (.tuple #[])∧∃ ps',Bx w' T #[.pointer (some ⟨B,0,none⟩),.slice ps'.A.ha (XB r.num m r.of.toNat s).hn ps'.A.hc]∧RcG w' (XB r.num m r.of.toNat s) ps'∧FrP (fun q=>q=T∨rbs ps s q) w w'∧(∀ q,rbs ps' (XB r.num m r.of.toNat s) q→rbs ps s q∨w.1.size≤q):=by
 obtain ⟨X1,X2⟩:=Bx.new2 w #[.pointer (some ⟨T,0,none⟩)] #[.int .i64 m.kind,.int .i64 m.from_,.int .i64 m.to,.int .i64 m.bal,.int .i64 m.ix,.int .i64 m.kn,.string m.text,.slice none 0 0] 125 52
 have hb0:Below w.1.size w ((w.alloc (.cells #[.pointer (some ⟨T,0,none⟩)] 125)).alloc (.cells #[.int .i64 m.kind,.int .i64 m.from_,.int .i64 m.to,.int .i64 m.bal,.int .i64 m.ix,.int .i64 m.kn,.string m.text,.slice none 0 0] 52)):=(Zb _ _).alloc (by simp) _
 have hz:w.1.size+2=((w.alloc (.cells #[.pointer (some ⟨T,0,none⟩)] 125)).alloc (.cells #[.int .i64 m.kind,.int .i64 m.from_,.int .i64 m.to,.int .i64 m.bal,.int .i64 m.ix,.int .i64 m.kn,.string m.text,.slice none 0 0] 52)).1.size:=by simp
 have HX1:=hid X1
 have HX2:=hid X2
 have HB0:=hid hb0
 have HZ:=hid hz
 have HT:=hid hT
 have HB:=hid hB
 have HG:=hid hg
 have HS:=hid hs
 have HLT:=hid hg.at_.lt
 have HNU:=hid hnum
 clear X1 X2 hb0 hz hT hB hg hs hnum
 go_enter Tryz.func166,Tryz.ntmps166
 go_wp2
 (generalize ((w.alloc (.cells #[.pointer (some ⟨T,0,none⟩)] 125)).alloc (.cells #[.int .i64 m.kind,.int .i64 m.from_,.int .i64 m.to,.int .i64 m.bal,.int .i64 m.ix,.int .i64 m.kn,.string m.text,.slice none 0 0] 52))=W at *)
 have zw:=HZ.out
 refine stoReg1 _ _ _ _ _ _ _ _ _ _ _ w.1.size (w.1.size+1) T B m r p (.slice ps.A.ha s.hn ps.A.hc) (fun w'=>∃ ps',Bx w' T #[.pointer (some ⟨B,0,none⟩),.slice ps'.A.ha (XB r.num m r.of.toNat s).hn ps'.A.hc]∧RcG w' (XB r.num m r.of.toNat s) ps'∧FrP (fun q=>q=T∨rbs ps s q) W w'∧(∀ q,rbs ps' (XB r.num m r.of.toNat s) q→rbs ps s q∨W.1.size≤q)) W (by omega) (HX1.out.cell 0) (HT.out.below HB0.out HT.out.lt) (HB.out.below HB0.out HB.out.lt) HX2.out (fun X hb=>?_) _ ?_
 ·have hbs:=hb.size
  have ltT:=HT.out.lt
  refine (Ig r p.A m hmn w.1.size X ho0 ho1 (fun k Y=>∃ ps',Bx Y T #[.pointer (some ⟨B,0,none⟩),.slice ps'.A.ha (XB r.num m k s).hn ps'.A.hc]∧RcG Y (XB r.num m k s) ps'∧FrP (fun q=>(q=T∨rbs ps s q)∨W.1.size≤q) W Y∧(∀ q,rbs ps' (XB r.num m k s) q→rbs ps s q∨X.1.size+2≤q)) ?_ ?_ ?_ ?_).mono ?_
  ·exact ⟨ps,(HT.out.below HB0.out ltT).below hb (by omega),(HG.out.grow HB0.out).grow hb,FrP.of_below hb,fun q hq=>Or.inl hq⟩
  ·rintro k Y Z hYz ⟨ps',x1,x2,x3,x4⟩ hf
   refine ⟨ps',x1.frP hf (by omega),x2.fr hf (fun q hq e=>?_),x3.trans (hf.mono (fun q hq=>Or.inr (by omega))),x4⟩
   rcases x4 q hq with h|h
   ·have:=HLT.out q h
    omega
   ·omega
  ·rintro k Y hk ⟨ps',x1,x2,x3,x4⟩
   have e:XB r.num m (k+1) s=XB r.num m k s:=by rw [XB,if_pos hk]
   rw [e]
   exact ⟨ps',x1,x2,x3,x4⟩
  ·rintro k Y hko hk hYz ⟨ps',x1,x2,x3,x4⟩
   have e:XB r.num m (k+1) s=Yk (XB r.num m k s) (toM r.num m k):=by rw [XB,if_neg hk]
   have hnm:(XB r.num m k s).num=r.num:=(Uo _ _ _ _).trans HNU.out
   have hle:=Np r.num m s k
   have h:=sent_do (XB r.num m k s) ps' (toM r.num m k) hmn hnm.symm T B w.1.size Y x1 (by omega) ?_ x2 (by omega) (fun q hq=>?_)
   ·rw [hnm] at h
    rw [e]
    refine h.mono ?_
    rintro e w' ⟨rfl,p2,y1,y2,y3,y4⟩
    refine ⟨rfl,⟨p2,y1,y2,x3.trans2 y3 (fun q hq h=>?_),fun q hq=>?_⟩,y3.mono (fun q h=>?_)⟩
    ·rcases h with h|⟨h1,h2⟩
     ·exact Or.inl (Or.inl h)
     ·rcases x4 q ⟨2,by omega,Or.inl ⟨Nat.pos_of_ne_zero h1,h2⟩⟩ with h|h
      ·exact Or.inl (Or.inr h)
      ·omega
    ·rcases y4 q hq with h|h
     ·exact x4 q h
     ·exact Or.inr (by omega)
    ·rcases h with h|⟨h1,h2⟩
     ·exact Or.inl (by omega)
     ·rcases x4 q ⟨2,by omega,Or.inl ⟨Nat.pos_of_ne_zero h1,h2⟩⟩ with h|h
      ·exact Or.inl (by have:=HLT.out q h;omega)
      ·exact Or.inr h
   ·rw [x3.cell (p:=⟨w.1.size,0,none⟩) (by show w.1.size<W.1.size;omega) (fun h=>?_)]
    ·exact HX1.out.cell 0
    ·rcases h with (h|h)|h
     ·have h2:w.1.size=T:=h
      omega
     ·have:=HLT.out _ h
      exact absurd this (Nat.lt_irrefl _)
     ·have h2:W.1.size≤w.1.size:=h
      omega
   ·rcases x4 q hq with h|h
    ·exact ⟨HS.out q h,by have:=HLT.out q h;omega⟩
    ·exact ⟨by omega,by omega⟩
  ·rintro e Y ⟨rfl,ps',x1,x2,x3,x4⟩
   refine ⟨rfl,ps',x1,x2,x3.low,fun q hq=>?_⟩
   rcases x4 q hq with h|h
   ·exact Or.inl h
   ·exact Or.inr (by omega)
 ·rintro t v3 X ⟨ps',x1,x2,x3,x4⟩
  refine bodyPost_end (results_none rfl _ _ _) rfl ⟨rfl,ps',x1,x2,(FrP.of_below HB0.out).trans2 x3 (fun q hq h=>h),fun q hq=>?_⟩
  rcases x4 q hq with h|h
  ·exact Or.inl h
  ·exact Or.inr (by omega)
end Go.Proofs.YtokkbdlofbdljaaGreat
