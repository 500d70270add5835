import Derived.Test.YtllmmkchokkaaaaGreatDoorPk15
import Derived.Deep.Cut
import Derived.Deep.CutRange
set_option maxRecDepth 100000
set_option maxHeartbeats 4000000
namespace Go.Proofs.YtllmmkchokkaaaaGreatDoor
open Go.RowKit
theorem apP288 {P:Prop} (h:P:=by
  by_cases hh:ho=⟨#[]⟩
  ·subst hh
   go_enter Tryz.func91,Tryz.ntmps91
   go_wp2
   go_ret
   exact ⟨ret_bool (by simp [useB,emB]),below_alloc' _ _⟩
  ·have hhb:=em_ne hh
   have hhl:=em_list hh
   have Hhh:=hid hh
   clear hh
   go_enter Tryz.func91,Tryz.ntmps91
   go_wp2
   go_ret
   exact ⟨ret_bool (by simp [useB,emB,Hhh.out,em_list Hhh.out]),below_alloc' _ _⟩):P:=h
theorem apP281 {P:Prop} (h:P:=by
  by_cases ht:te=⟨#[]⟩
  ·subst ht
   exact apP288
  ·have htb:=em_ne ht
   have htl:=em_list ht
   have Hht:=hid ht
   clear ht
   go_enter Tryz.func91,Tryz.ntmps91
   go_wp2
   go_ret
   exact ⟨ret_bool (by simp [useB,emB,Hht.out]),below_alloc' _ _⟩):P:=h
theorem useFits_any (w:Wr) (W:World):Calls Tryz.prog 91 #[.agg #[.int .i64 w.op,.string w.kind,.string w.name,.int .i64 w.seen,.string w.text,.string w.hold]] W fun e w'=>e=.returned (.bool (useB w))∧Below W.1.size W w':=by
 obtain ⟨op,ki,na,se,te,ho⟩:=w
 dsimp only
 by_cases h1:op=1
 ·subst h1
  by_cases hs:se=0
  ·subst hs
   go_enter Tryz.func91,Tryz.ntmps91
   go_wp2
   go_ret
   exact ⟨ret_bool (by simp [useB]),below_alloc' _ _⟩
  ·have hsb:(se==0)=false:=by simp [hs]
   go_enter Tryz.func91,Tryz.ntmps91
   go_wp2
   go_ret
   exact ⟨ret_bool (by simp [useB,hs]),below_alloc' _ _⟩
 by_cases h2:op=2
 ·subst h2
  exact apP288
 by_cases h3:op=3
 ·subst h3
  exact apP281
 by_cases h4:op=4
 ·subst h4
  exact apP281
 by_cases h5:op=5
 ·subst h5
  exact apP281
 have g1:(op==1)=false:=by simp [h1]
 have g2:(op==2)=false:=by simp [h2]
 have g3:(op==3)=false:=by simp [h3]
 have g4:(op==4)=false:=by simp [h4]
 have g5:(op==5)=false:=by simp [h5]
 have HH:=hid (show useB ⟨op,ki,na,se,te,ho⟩=false by simp [useB,h1,h2,h3,h4,h5])
 go_enter Tryz.func91,Tryz.ntmps91
 go_wp2
 go_ret
 exact ⟨ret_bool HH.out.symm,below_alloc' _ _⟩
theorem apP282 {P:Prop} (h:P:=by
  go_enter Tryz.func41,Tryz.ntmps41
  go_wp2_with (go_at_call 90;refine (isName_any _ _ Zi).mono ?_;rintro e w1 ⟨rfl,rfl⟩;first|rw [nk]|rw [nn]|rw [nh])
  go_ret
  exact ⟨ret_bool HE.out.symm,below_alloc' _ _⟩):P:=h
theorem writeFits_any (w:Wr) (hf:WrFit w) (W:World):Calls Tryz.prog 41 #[.agg #[.int .i64 w.op,.string w.kind,.string w.name,.int .i64 w.seen,.string w.text,.string w.hold]] W fun e w'=>e=.returned (.bool (wrB w))∧Below W.1.size W w':=by
 obtain ⟨op,ki,na,se,te,ho⟩:=w
 have htx:=hf.t
 dsimp only at htx ⊢
 cases nk:nameB ki with
 | false=>
  have HE:=hid (show wrB ⟨op,ki,na,se,te,ho⟩=false by simp [wrB,comB,nk])
  exact apP282
 | true=>
 cases nn:nameB na with
 | false=>
  have HE:=hid (show wrB ⟨op,ki,na,se,te,ho⟩=false by simp [wrB,comB,nn])
  exact apP282
 | true=>
 by_cases hs:0≤se
 case neg=>
  have HE:=hid (show wrB ⟨op,ki,na,se,te,ho⟩=false by simp [wrB,comB,hs])
  have hs2:se<0:=Za
  exact apP282
 by_cases ht:te.size≤300
 case neg=>
  have HE:=hid (show wrB ⟨op,ki,na,se,te,ho⟩=false by simp [wrB,comB,ht])
  have ht2:¬(te.size:Int)≤300:=Za
  exact apP282
 have ht2:(te.size:Int)≤300:=Za
 by_cases hh:ho=⟨#[]⟩
 ·subst hh
  have HE:=hid (show wrB ⟨op,ki,na,se,te,⟨#[]⟩⟩=useB ⟨op,ki,na,se,te,⟨#[]⟩⟩ by simp [wrB,comB,nk,nn,hs,ht,emB])
  go_enter Tryz.func41,Tryz.ntmps41
  go_wp2_with (first|(go_at_call 90;refine (isName_any _ _ Zi).mono ?_;rintro e w1 ⟨rfl,rfl⟩;first|rw [nk]|rw [nn]|rw [nh])|(go_at_call 91;refine (useFits_any ⟨op,ki,na,se,te,⟨#[]⟩⟩ _).mono ?_;rintro e w2 ⟨rfl,hb2⟩))
  go_ret
  exact ⟨ret_bool HE.out.symm,(below_alloc' _ _).trans (hb2.mono Zd)⟩
 ·have hhb:=em_ne hh
  have hhl:=em_list hh
  cases nh:nameB ho with
  | false=>
   have HE:=hid (show wrB ⟨op,ki,na,se,te,ho⟩=false by simp [wrB,comB,nh,emB,hh])
   exact apP282
  | true=>
   have HE:=hid (show wrB ⟨op,ki,na,se,te,ho⟩=useB ⟨op,ki,na,se,te,ho⟩ by simp [wrB,comB,nk,nn,hs,ht,nh])
   go_enter Tryz.func41,Tryz.ntmps41
   go_wp2_with (first|(go_at_call 90;refine (isName_any _ _ Zi).mono ?_;rintro e w1 ⟨rfl,rfl⟩;first|rw [nk]|rw [nn]|rw [nh])|(go_at_call 91;refine (useFits_any ⟨op,ki,na,se,te,ho⟩ _).mono ?_;rintro e w2 ⟨rfl,hb2⟩))
   go_ret
   exact ⟨ret_bool HE.out.symm,(below_alloc' _ _).trans (hb2.mono Zd)⟩
theorem useB_no {w:Wr} (h:inB w.op 1 5=false):useB w=false:=by
 unfold inB at h
 simp at h
 unfold useB
 rw [if_neg Za,if_neg Za,if_neg Za,if_neg Za,if_neg Za]
theorem apP280 {P:Prop} (h:P:=by
  go_meet
  exact ⟨congrArg Value.bool (by first|(simp [comB,nk,nn,hs,ht,emB,hh,nh];done)|(simp [comB,nk,nn,hs,ht,emB,hh,nh];omega)|(simp [comB,nk,nn,hs,ht,emB,hh,nh,em_list hh];done)|(simp [comB,nk,nn,hs,ht,emB,hh,nh,em_list hh];omega)),rfl⟩):P:=h
theorem apP283 {P:Prop} (h:P:=by
  go_meet
  exact ⟨congrArg Value.bool (by first|(simp [comB,nk,nn,hs,ht,emB];done)|(simp [comB,nk,nn,hs,ht,emB];omega)|(simp [comB,nk,nn,hs,ht,emB,em_list hh];done)|(simp [comB,nk,nn,hs,ht,emB,em_list hh];omega)),rfl⟩):P:=h
theorem apP284 {P:Prop} (h:P:=by
  go_meet
  exact ⟨congrArg Value.bool (by first|(simp [comB,nk];done)|(simp [comB,nk];omega)|(simp [comB,nk,em_list hh];done)|(simp [comB,nk,em_list hh];omega)),rfl⟩):P:=h
theorem apP285 {P:Prop} (h:P:=by
  go_meet
  exact ⟨congrArg Value.bool (by first|(simp [comB,nn];done)|(simp [comB,nn];omega)|(simp [comB,nn,em_list hh];done)|(simp [comB,nn,em_list hh];omega)),rfl⟩):P:=h
theorem apP286 {P:Prop} (h:P:=by
  go_meet
  exact ⟨congrArg Value.bool (by first|(simp [comB,hs];done)|(simp [comB,hs];omega)|(simp [comB,hs,em_list hh];done)|(simp [comB,hs,em_list hh];omega)),rfl⟩):P:=h
theorem apP287 {P:Prop} (h:P:=by
  go_meet
  exact ⟨congrArg Value.bool (by first|(simp [comB,ht];done)|(simp [comB,ht];omega)|(simp [comB,ht,em_list hh];done)|(simp [comB,ht,em_list hh];omega)),rfl⟩):P:=h
theorem apP289 {P:Prop} (h:P:=by
  go_wp2_with (first|(go_at_call 70;refine (in_any _ _ _ _).mono ?_;rintro e w1 ⟨rfl,rfl⟩;rw [show inB 1 1 5=true from rfl])|(go_at_call 110;refine (nameOk_any _ _ Zi).mono ?_;rintro e w1 ⟨rfl,rfl⟩;first|rw [nk]|rw [nn]|rw [nh]))
  exact apP280):P:=h
theorem apP2810 {P:Prop} (h:P:=by
  go_wp2_with (first|(go_at_call 70;refine (in_any _ _ _ _).mono ?_;rintro e w1 ⟨rfl,rfl⟩;rw [show inB 2 1 5=true from rfl])|(go_at_call 110;refine (nameOk_any _ _ Zi).mono ?_;rintro e w1 ⟨rfl,rfl⟩;first|rw [nk]|rw [nn]|rw [nh]))
  exact apP280):P:=h
theorem apP2811 {P:Prop} (h:P:=by
  go_wp2_with (first|(go_at_call 70;refine (in_any _ _ _ _).mono ?_;rintro e w1 ⟨rfl,rfl⟩;rw [show inB 3 1 5=true from rfl])|(go_at_call 110;refine (nameOk_any _ _ Zi).mono ?_;rintro e w1 ⟨rfl,rfl⟩;first|rw [nk]|rw [nn]|rw [nh]))
  exact apP280):P:=h
theorem apP2812 {P:Prop} (h:P:=by
  go_wp2_with (first|(go_at_call 70;refine (in_any _ _ _ _).mono ?_;rintro e w1 ⟨rfl,rfl⟩;rw [show inB 4 1 5=true from rfl])|(go_at_call 110;refine (nameOk_any _ _ Zi).mono ?_;rintro e w1 ⟨rfl,rfl⟩;first|rw [nk]|rw [nn]|rw [nh]))
  exact apP280):P:=h
theorem apP2813 {P:Prop} (h:P:=by
  go_wp2_with (first|(go_at_call 70;refine (in_any _ _ _ _).mono ?_;rintro e w1 ⟨rfl,rfl⟩;rw [show inB 5 1 5=true from rfl])|(go_at_call 110;refine (nameOk_any _ _ Zi).mono ?_;rintro e w1 ⟨rfl,rfl⟩;first|rw [nk]|rw [nn]|rw [nh]))
  exact apP280):P:=h
theorem apP2814 {P:Prop} (h:P:=by
  go_wp2
  go_ret
  exact ⟨ret_bool (HE.out.trans (by simp [useB,emB,hho])).symm,below_alloc' _ _⟩):P:=h
theorem apP2815 {P:Prop} (h:P:=by
  go_wp2
  go_ret
  exact ⟨ret_bool (HE.out.trans (by simp [useB,emB])).symm,below_alloc' _ _⟩):P:=h
theorem apP2816 {P:Prop} (h:P:=by
  go_wp2
  go_ret
  exact ⟨ret_bool HE.out.symm,below_alloc' _ _⟩):P:=h
theorem apP2817 {P:Prop} (h:P:=by
  go_wp2
  go_ret
  exact ⟨ret_bool (HE.out.trans (by simp [useB,emB,hte])).symm,below_alloc' _ _⟩):P:=h
theorem writeOk_any (w:Wr) (hf:WrFit w) (W:World):Calls Tryz.prog 74 #[.agg #[.int .i64 w.op,.string w.kind,.string w.name,.int .i64 w.seen,.string w.text,.string w.hold]] W fun e w'=>e=.returned (.bool (wrB w))∧Below W.1.size W w':=by
 obtain ⟨op,ki,na,se,te,ho⟩:=w
 have htx:=hf.t
 dsimp only at htx ⊢
 cases hin:inB op 1 5 with
 | false=>
  have HE:=hid (show wrB ⟨op,ki,na,se,te,ho⟩=false by unfold wrB;rw [useB_no (w:=⟨op,ki,na,se,te,ho⟩) hin];simp)
  go_enter Tryz.func74,Tryz.ntmps74
  go_wp2_with (go_at_call 70;refine (in_any _ _ _ _).mono ?_;rintro e w1 ⟨rfl,rfl⟩;rw [hin])
  go_ret
  exact ⟨ret_bool HE.out.symm,below_alloc' _ _⟩
 | true=>
 have hop:op=1∨op=2∨op=3∨op=4∨op=5:=by
  unfold inB at hin
  simp at hin
  omega
 clear hin
 rcases hop with rfl|rfl|rfl|rfl|rfl
 ·go_enter Tryz.func74,Tryz.ntmps74
  go_upto_region 1 with fail
  go_cut [42] from 5 to 94 (fun s42 wx=>s42=.bool (!comB ⟨1,ki,na,se,te,ho⟩)∧W.alloc (.cells #[.int .i64 1,.string ki,.string na,.int .i64 se,.string te,.string ho] 40)=wx)
  case first=>
   cases nk:nameB ki with
   | false=>
    go_wp2_with (first|(go_at_call 70;refine (in_any _ _ _ _).mono ?_;rintro e w1 ⟨rfl,rfl⟩;rw [show inB 1 1 5=true from rfl])|(go_at_call 110;refine (nameOk_any _ _ Zi).mono ?_;rintro e w1 ⟨rfl,rfl⟩;first|rw [nk]|rw [nn]|rw [nh]))
    exact apP284
   | true=>
   cases nn:nameB na with
   | false=>
    go_wp2_with (first|(go_at_call 70;refine (in_any _ _ _ _).mono ?_;rintro e w1 ⟨rfl,rfl⟩;rw [show inB 1 1 5=true from rfl])|(go_at_call 110;refine (nameOk_any _ _ Zi).mono ?_;rintro e w1 ⟨rfl,rfl⟩;first|rw [nk]|rw [nn]|rw [nh]))
    exact apP285
   | true=>
   by_cases hs:0≤se
   case neg=>
    have hs2:se<0:=Za
    go_wp2_with (first|(go_at_call 70;refine (in_any _ _ _ _).mono ?_;rintro e w1 ⟨rfl,rfl⟩;rw [show inB 1 1 5=true from rfl])|(go_at_call 110;refine (nameOk_any _ _ Zi).mono ?_;rintro e w1 ⟨rfl,rfl⟩;first|rw [nk]|rw [nn]|rw [nh]))
    exact apP286
   have hs2:¬se<0:=Za
   by_cases ht:te.size≤300
   case neg=>
    have ht2:(300:Int)<te.size:=Za
    go_wp2_with (first|(go_at_call 70;refine (in_any _ _ _ _).mono ?_;rintro e w1 ⟨rfl,rfl⟩;rw [show inB 1 1 5=true from rfl])|(go_at_call 110;refine (nameOk_any _ _ Zi).mono ?_;rintro e w1 ⟨rfl,rfl⟩;first|rw [nk]|rw [nn]|rw [nh]))
    exact apP287
   have ht2:¬(300:Int)<te.size:=Za
   by_cases hh:ho=⟨#[]⟩
   ·subst hh
    go_wp2_with (first|(go_at_call 70;refine (in_any _ _ _ _).mono ?_;rintro e w1 ⟨rfl,rfl⟩;rw [show inB 1 1 5=true from rfl])|(go_at_call 110;refine (nameOk_any _ _ Zi).mono ?_;rintro e w1 ⟨rfl,rfl⟩;first|rw [nk]|rw [nn]|rw [nh]))
    exact apP283
   ·have hhb:=em_ne hh
    have hhl:=em_list hh
    cases nh:nameB ho with
    | false=>
     exact apP289
    | true=>
     exact apP289
  case rest=>
   obtain ⟨rfl,rfl⟩:=hcut
   cases hcm:comB ⟨1,ki,na,se,te,ho⟩ with
   | false=>
    have HE:=hid (show wrB ⟨1,ki,na,se,te,ho⟩=false by unfold wrB;rw [hcm];rfl)
    exact apP2816
   | true=>
    have CT:=hid hcm
    clear hcm
    by_cases hs:se=0
    ·subst hs
     have HE:=hid (show wrB ⟨1,ki,na,0,te,ho⟩=useB ⟨1,ki,na,0,te,ho⟩ by unfold wrB;rw [CT.out];rfl)
     go_wp2
     go_ret
     exact ⟨ret_bool (HE.out.trans (by simp [useB])).symm,below_alloc' _ _⟩
    ·have hsb:(se != 0)=true:=by simp [hs]
     have HE:=hid (show wrB ⟨1,ki,na,se,te,ho⟩=useB ⟨1,ki,na,se,te,ho⟩ by unfold wrB;rw [CT.out];rfl)
     go_wp2
     go_ret
     exact ⟨ret_bool (HE.out.trans (by simp [useB,hs])).symm,below_alloc' _ _⟩
 ·go_enter Tryz.func74,Tryz.ntmps74
  go_upto_region 1 with fail
  go_cut [42] from 5 to 94 (fun s42 wx=>s42=.bool (!comB ⟨2,ki,na,se,te,ho⟩)∧W.alloc (.cells #[.int .i64 2,.string ki,.string na,.int .i64 se,.string te,.string ho] 40)=wx)
  case first=>
   cases nk:nameB ki with
   | false=>
    go_wp2_with (first|(go_at_call 70;refine (in_any _ _ _ _).mono ?_;rintro e w1 ⟨rfl,rfl⟩;rw [show inB 2 1 5=true from rfl])|(go_at_call 110;refine (nameOk_any _ _ Zi).mono ?_;rintro e w1 ⟨rfl,rfl⟩;first|rw [nk]|rw [nn]|rw [nh]))
    exact apP284
   | true=>
   cases nn:nameB na with
   | false=>
    go_wp2_with (first|(go_at_call 70;refine (in_any _ _ _ _).mono ?_;rintro e w1 ⟨rfl,rfl⟩;rw [show inB 2 1 5=true from rfl])|(go_at_call 110;refine (nameOk_any _ _ Zi).mono ?_;rintro e w1 ⟨rfl,rfl⟩;first|rw [nk]|rw [nn]|rw [nh]))
    exact apP285
   | true=>
   by_cases hs:0≤se
   case neg=>
    have hs2:se<0:=Za
    go_wp2_with (first|(go_at_call 70;refine (in_any _ _ _ _).mono ?_;rintro e w1 ⟨rfl,rfl⟩;rw [show inB 2 1 5=true from rfl])|(go_at_call 110;refine (nameOk_any _ _ Zi).mono ?_;rintro e w1 ⟨rfl,rfl⟩;first|rw [nk]|rw [nn]|rw [nh]))
    exact apP286
   have hs2:¬se<0:=Za
   by_cases ht:te.size≤300
   case neg=>
    have ht2:(300:Int)<te.size:=Za
    go_wp2_with (first|(go_at_call 70;refine (in_any _ _ _ _).mono ?_;rintro e w1 ⟨rfl,rfl⟩;rw [show inB 2 1 5=true from rfl])|(go_at_call 110;refine (nameOk_any _ _ Zi).mono ?_;rintro e w1 ⟨rfl,rfl⟩;first|rw [nk]|rw [nn]|rw [nh]))
    exact apP287
   have ht2:¬(300:Int)<te.size:=Za
   by_cases hh:ho=⟨#[]⟩
   ·subst hh
    go_wp2_with (first|(go_at_call 70;refine (in_any _ _ _ _).mono ?_;rintro e w1 ⟨rfl,rfl⟩;rw [show inB 2 1 5=true from rfl])|(go_at_call 110;refine (nameOk_any _ _ Zi).mono ?_;rintro e w1 ⟨rfl,rfl⟩;first|rw [nk]|rw [nn]|rw [nh]))
    exact apP283
   ·have hhb:=em_ne hh
    have hhl:=em_list hh
    cases nh:nameB ho with
    | false=>
     exact apP2810
    | true=>
     exact apP2810
  case rest=>
   obtain ⟨rfl,rfl⟩:=hcut
   cases hcm:comB ⟨2,ki,na,se,te,ho⟩ with
   | false=>
    have HE:=hid (show wrB ⟨2,ki,na,se,te,ho⟩=false by unfold wrB;rw [hcm];rfl)
    exact apP2816
   | true=>
    have CT:=hid hcm
    clear hcm
    by_cases hho:ho=⟨#[]⟩
    ·subst hho
     have HE:=hid (show wrB ⟨2,ki,na,se,te,⟨#[]⟩⟩=useB ⟨2,ki,na,se,te,⟨#[]⟩⟩ by unfold wrB;rw [CT.out];rfl)
     exact apP2815
    ·have hhob:=em_ne hho
     have hhoe:ho.toList.isEmpty=false:=by simp [em_list hho]
     have hhol:=em_list hho
     have HE:=hid (show wrB ⟨2,ki,na,se,te,ho⟩=useB ⟨2,ki,na,se,te,ho⟩ by unfold wrB;rw [CT.out];rfl)
     exact apP2814
 ·go_enter Tryz.func74,Tryz.ntmps74
  go_upto_region 1 with fail
  go_cut [42] from 5 to 94 (fun s42 wx=>s42=.bool (!comB ⟨3,ki,na,se,te,ho⟩)∧W.alloc (.cells #[.int .i64 3,.string ki,.string na,.int .i64 se,.string te,.string ho] 40)=wx)
  case first=>
   cases nk:nameB ki with
   | false=>
    go_wp2_with (first|(go_at_call 70;refine (in_any _ _ _ _).mono ?_;rintro e w1 ⟨rfl,rfl⟩;rw [show inB 3 1 5=true from rfl])|(go_at_call 110;refine (nameOk_any _ _ Zi).mono ?_;rintro e w1 ⟨rfl,rfl⟩;first|rw [nk]|rw [nn]|rw [nh]))
    exact apP284
   | true=>
   cases nn:nameB na with
   | false=>
    go_wp2_with (first|(go_at_call 70;refine (in_any _ _ _ _).mono ?_;rintro e w1 ⟨rfl,rfl⟩;rw [show inB 3 1 5=true from rfl])|(go_at_call 110;refine (nameOk_any _ _ Zi).mono ?_;rintro e w1 ⟨rfl,rfl⟩;first|rw [nk]|rw [nn]|rw [nh]))
    exact apP285
   | true=>
   by_cases hs:0≤se
   case neg=>
    have hs2:se<0:=Za
    go_wp2_with (first|(go_at_call 70;refine (in_any _ _ _ _).mono ?_;rintro e w1 ⟨rfl,rfl⟩;rw [show inB 3 1 5=true from rfl])|(go_at_call 110;refine (nameOk_any _ _ Zi).mono ?_;rintro e w1 ⟨rfl,rfl⟩;first|rw [nk]|rw [nn]|rw [nh]))
    exact apP286
   have hs2:¬se<0:=Za
   by_cases ht:te.size≤300
   case neg=>
    have ht2:(300:Int)<te.size:=Za
    go_wp2_with (first|(go_at_call 70;refine (in_any _ _ _ _).mono ?_;rintro e w1 ⟨rfl,rfl⟩;rw [show inB 3 1 5=true from rfl])|(go_at_call 110;refine (nameOk_any _ _ Zi).mono ?_;rintro e w1 ⟨rfl,rfl⟩;first|rw [nk]|rw [nn]|rw [nh]))
    exact apP287
   have ht2:¬(300:Int)<te.size:=Za
   by_cases hh:ho=⟨#[]⟩
   ·subst hh
    go_wp2_with (first|(go_at_call 70;refine (in_any _ _ _ _).mono ?_;rintro e w1 ⟨rfl,rfl⟩;rw [show inB 3 1 5=true from rfl])|(go_at_call 110;refine (nameOk_any _ _ Zi).mono ?_;rintro e w1 ⟨rfl,rfl⟩;first|rw [nk]|rw [nn]|rw [nh]))
    exact apP283
   ·have hhb:=em_ne hh
    have hhl:=em_list hh
    cases nh:nameB ho with
    | false=>
     exact apP2811
    | true=>
     exact apP2811
  case rest=>
   obtain ⟨rfl,rfl⟩:=hcut
   cases hcm:comB ⟨3,ki,na,se,te,ho⟩ with
   | false=>
    have HE:=hid (show wrB ⟨3,ki,na,se,te,ho⟩=false by unfold wrB;rw [hcm];rfl)
    exact apP2816
   | true=>
    have CT:=hid hcm
    clear hcm
    by_cases hte:te=⟨#[]⟩
    ·subst hte
     by_cases hho:ho=⟨#[]⟩
     ·subst hho
      have HE:=hid (show wrB ⟨3,ki,na,se,⟨#[]⟩,⟨#[]⟩⟩=useB ⟨3,ki,na,se,⟨#[]⟩,⟨#[]⟩⟩ by unfold wrB;rw [CT.out];rfl)
      exact apP2815
     ·have hhob:=em_ne hho
      have hhoe:ho.toList.isEmpty=false:=by simp [em_list hho]
      have hhol:=em_list hho
      have HE:=hid (show wrB ⟨3,ki,na,se,⟨#[]⟩,ho⟩=useB ⟨3,ki,na,se,⟨#[]⟩,ho⟩ by unfold wrB;rw [CT.out];rfl)
      exact apP2814
    ·have hteb:=em_ne hte
     have htee:te.toList.isEmpty=false:=by simp [em_list hte]
     have htel:=em_list hte
     have HE:=hid (show wrB ⟨3,ki,na,se,te,ho⟩=useB ⟨3,ki,na,se,te,ho⟩ by unfold wrB;rw [CT.out];rfl)
     exact apP2817
 ·go_enter Tryz.func74,Tryz.ntmps74
  go_upto_region 1 with fail
  go_cut [42] from 5 to 94 (fun s42 wx=>s42=.bool (!comB ⟨4,ki,na,se,te,ho⟩)∧W.alloc (.cells #[.int .i64 4,.string ki,.string na,.int .i64 se,.string te,.string ho] 40)=wx)
  case first=>
   cases nk:nameB ki with
   | false=>
    go_wp2_with (first|(go_at_call 70;refine (in_any _ _ _ _).mono ?_;rintro e w1 ⟨rfl,rfl⟩;rw [show inB 4 1 5=true from rfl])|(go_at_call 110;refine (nameOk_any _ _ Zi).mono ?_;rintro e w1 ⟨rfl,rfl⟩;first|rw [nk]|rw [nn]|rw [nh]))
    exact apP284
   | true=>
   cases nn:nameB na with
   | false=>
    go_wp2_with (first|(go_at_call 70;refine (in_any _ _ _ _).mono ?_;rintro e w1 ⟨rfl,rfl⟩;rw [show inB 4 1 5=true from rfl])|(go_at_call 110;refine (nameOk_any _ _ Zi).mono ?_;rintro e w1 ⟨rfl,rfl⟩;first|rw [nk]|rw [nn]|rw [nh]))
    exact apP285
   | true=>
   by_cases hs:0≤se
   case neg=>
    have hs2:se<0:=Za
    go_wp2_with (first|(go_at_call 70;refine (in_any _ _ _ _).mono ?_;rintro e w1 ⟨rfl,rfl⟩;rw [show inB 4 1 5=true from rfl])|(go_at_call 110;refine (nameOk_any _ _ Zi).mono ?_;rintro e w1 ⟨rfl,rfl⟩;first|rw [nk]|rw [nn]|rw [nh]))
    exact apP286
   have hs2:¬se<0:=Za
   by_cases ht:te.size≤300
   case neg=>
    have ht2:(300:Int)<te.size:=Za
    go_wp2_with (first|(go_at_call 70;refine (in_any _ _ _ _).mono ?_;rintro e w1 ⟨rfl,rfl⟩;rw [show inB 4 1 5=true from rfl])|(go_at_call 110;refine (nameOk_any _ _ Zi).mono ?_;rintro e w1 ⟨rfl,rfl⟩;first|rw [nk]|rw [nn]|rw [nh]))
    exact apP287
   have ht2:¬(300:Int)<te.size:=Za
   by_cases hh:ho=⟨#[]⟩
   ·subst hh
    go_wp2_with (first|(go_at_call 70;refine (in_any _ _ _ _).mono ?_;rintro e w1 ⟨rfl,rfl⟩;rw [show inB 4 1 5=true from rfl])|(go_at_call 110;refine (nameOk_any _ _ Zi).mono ?_;rintro e w1 ⟨rfl,rfl⟩;first|rw [nk]|rw [nn]|rw [nh]))
    exact apP283
   ·have hhb:=em_ne hh
    have hhl:=em_list hh
    cases nh:nameB ho with
    | false=>
     exact apP2812
    | true=>
     exact apP2812
  case rest=>
   obtain ⟨rfl,rfl⟩:=hcut
   cases hcm:comB ⟨4,ki,na,se,te,ho⟩ with
   | false=>
    have HE:=hid (show wrB ⟨4,ki,na,se,te,ho⟩=false by unfold wrB;rw [hcm];rfl)
    exact apP2816
   | true=>
    have CT:=hid hcm
    clear hcm
    by_cases hte:te=⟨#[]⟩
    ·subst hte
     by_cases hho:ho=⟨#[]⟩
     ·subst hho
      have HE:=hid (show wrB ⟨4,ki,na,se,⟨#[]⟩,⟨#[]⟩⟩=useB ⟨4,ki,na,se,⟨#[]⟩,⟨#[]⟩⟩ by unfold wrB;rw [CT.out];rfl)
      exact apP2815
     ·have hhob:=em_ne hho
      have hhoe:ho.toList.isEmpty=false:=by simp [em_list hho]
      have hhol:=em_list hho
      have HE:=hid (show wrB ⟨4,ki,na,se,⟨#[]⟩,ho⟩=useB ⟨4,ki,na,se,⟨#[]⟩,ho⟩ by unfold wrB;rw [CT.out];rfl)
      exact apP2814
    ·have hteb:=em_ne hte
     have htee:te.toList.isEmpty=false:=by simp [em_list hte]
     have htel:=em_list hte
     have HE:=hid (show wrB ⟨4,ki,na,se,te,ho⟩=useB ⟨4,ki,na,se,te,ho⟩ by unfold wrB;rw [CT.out];rfl)
     exact apP2817
 ·go_enter Tryz.func74,Tryz.ntmps74
  go_upto_region 1 with fail
  go_cut [42] from 5 to 94 (fun s42 wx=>s42=.bool (!comB ⟨5,ki,na,se,te,ho⟩)∧W.alloc (.cells #[.int .i64 5,.string ki,.string na,.int .i64 se,.string te,.string ho] 40)=wx)
  case first=>
   cases nk:nameB ki with
   | false=>
    go_wp2_with (first|(go_at_call 70;refine (in_any _ _ _ _).mono ?_;rintro e w1 ⟨rfl,rfl⟩;rw [show inB 5 1 5=true from rfl])|(go_at_call 110;refine (nameOk_any _ _ Zi).mono ?_;rintro e w1 ⟨rfl,rfl⟩;first|rw [nk]|rw [nn]|rw [nh]))
    exact apP284
   | true=>
   cases nn:nameB na with
   | false=>
    go_wp2_with (first|(go_at_call 70;refine (in_any _ _ _ _).mono ?_;rintro e w1 ⟨rfl,rfl⟩;rw [show inB 5 1 5=true from rfl])|(go_at_call 110;refine (nameOk_any _ _ Zi).mono ?_;rintro e w1 ⟨rfl,rfl⟩;first|rw [nk]|rw [nn]|rw [nh]))
    exact apP285
   | true=>
   by_cases hs:0≤se
   case neg=>
    have hs2:se<0:=Za
    go_wp2_with (first|(go_at_call 70;refine (in_any _ _ _ _).mono ?_;rintro e w1 ⟨rfl,rfl⟩;rw [show inB 5 1 5=true from rfl])|(go_at_call 110;refine (nameOk_any _ _ Zi).mono ?_;rintro e w1 ⟨rfl,rfl⟩;first|rw [nk]|rw [nn]|rw [nh]))
    exact apP286
   have hs2:¬se<0:=Za
   by_cases ht:te.size≤300
   case neg=>
    have ht2:(300:Int)<te.size:=Za
    go_wp2_with (first|(go_at_call 70;refine (in_any _ _ _ _).mono ?_;rintro e w1 ⟨rfl,rfl⟩;rw [show inB 5 1 5=true from rfl])|(go_at_call 110;refine (nameOk_any _ _ Zi).mono ?_;rintro e w1 ⟨rfl,rfl⟩;first|rw [nk]|rw [nn]|rw [nh]))
    exact apP287
   have ht2:¬(300:Int)<te.size:=Za
   by_cases hh:ho=⟨#[]⟩
   ·subst hh
    go_wp2_with (first|(go_at_call 70;refine (in_any _ _ _ _).mono ?_;rintro e w1 ⟨rfl,rfl⟩;rw [show inB 5 1 5=true from rfl])|(go_at_call 110;refine (nameOk_any _ _ Zi).mono ?_;rintro e w1 ⟨rfl,rfl⟩;first|rw [nk]|rw [nn]|rw [nh]))
    exact apP283
   ·have hhb:=em_ne hh
    have hhl:=em_list hh
    cases nh:nameB ho with
    | false=>
     exact apP2813
    | true=>
     exact apP2813
  case rest=>
   obtain ⟨rfl,rfl⟩:=hcut
   cases hcm:comB ⟨5,ki,na,se,te,ho⟩ with
   | false=>
    have HE:=hid (show wrB ⟨5,ki,na,se,te,ho⟩=false by unfold wrB;rw [hcm];rfl)
    exact apP2816
   | true=>
    have CT:=hid hcm
    clear hcm
    by_cases hte:te=⟨#[]⟩
    ·subst hte
     by_cases hho:ho=⟨#[]⟩
     ·subst hho
      have HE:=hid (show wrB ⟨5,ki,na,se,⟨#[]⟩,⟨#[]⟩⟩=useB ⟨5,ki,na,se,⟨#[]⟩,⟨#[]⟩⟩ by unfold wrB;rw [CT.out];rfl)
      exact apP2815
     ·have hhob:=em_ne hho
      have hhoe:ho.toList.isEmpty=false:=by simp [em_list hho]
      have hhol:=em_list hho
      have HE:=hid (show wrB ⟨5,ki,na,se,⟨#[]⟩,ho⟩=useB ⟨5,ki,na,se,⟨#[]⟩,ho⟩ by unfold wrB;rw [CT.out];rfl)
      exact apP2814
    ·have hteb:=em_ne hte
     have htee:te.toList.isEmpty=false:=by simp [em_list hte]
     have htel:=em_list hte
     have HE:=hid (show wrB ⟨5,ki,na,se,te,ho⟩=useB ⟨5,ki,na,se,te,ho⟩ by unfold wrB;rw [CT.out];rfl)
     exact apP2817
end Go.Proofs.YtllmmkchokkaaaaGreatDoor
