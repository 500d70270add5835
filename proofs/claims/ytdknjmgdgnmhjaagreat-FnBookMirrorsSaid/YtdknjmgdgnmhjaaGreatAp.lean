import Derived.Test.YtdknjmgdgnmhjaaGreatRows
import Derived.WalkKit
import Derived.WalkSpells
import Derived.WalkLawsBesides
import Derived.Laws.IdiomStrings
import Derived.Deep.RegionWith
import Derived.Deep.QuietTactic
import Derived.BigQuiet
import Derived.Deep.Light
set_option linter.defProp false
namespace Go
abbrev Value.i(a:Int):Value:=.int .i64 a
abbrev Value.s(b:ByteArray):Value:=.string b
abbrev Value.l(a:Option Addr)(n c:Nat):Value:=.slice a n c
abbrev Value.p(b o:Nat):Value:=.pointer (some ⟨b,o,none⟩)
abbrev Lit.i(a:Int):Lit:=.int .i64 a
abbrev Lit.s(b:List UInt8):Lit:=.string b
end Go
namespace Go.Proofs.YtdknjmgdgnmhjaaGreat
open Go.RowKit Go.Proofs.Tryz
variable {P:Prop}{n:Nat}
abbrev OA:=Option Addr
abbrev Aa:=@Nat.lt_of_lt_of_le
abbrev Ac:=@List.getD_cons_zero
abbrev Ad:=@List.getD_cons_succ
abbrev Ae:=@Nat.not_lt_zero
abbrev Af:=@List.getElem?_cons_zero
abbrev Ah:=@List.getElem?_toArray
abbrev Ai:=@List.getElem?_cons_succ
abbrev Al:=@World.cell?_alloc_new
abbrev Ap:=@Below.refl
abbrev Ar:=@Nat.zero_le
abbrev As:=@Bool.and_eq_true
abbrev At:=@World.cell?_alloc_past
abbrev Av:=@World.size_alloc
abbrev Az:=@Or.inr
abbrev AA:=@Or.inl
abbrev AD:=@Nat.lt_or_ge
abbrev AG:=@Nat.le_refl
abbrev AI:=@World.cell?_setCell_other
abbrev AJ:=@Nat.le_trans
abbrev AM:=@Array.getElem?_eq_some_iff
abbrev AQ:=@IntWalk.i64_in
abbrev AZ:=@Option.some.injEq
abbrev A6:=@Nat.zero_add
abbrev Bc:=@Nat.lt_irrefl
abbrev Bi:=@Nat.eq_zero_or_pos
abbrev Bs:=@Below.setCell
abbrev Bz:=@List.all_eq_true
abbrev BE:=@Nat.lt_succ_self
abbrev BF:=@List.mem_range
abbrev BK:=@Oper.upon_value
abbrev BN:=@Nat.add_assoc
abbrev BO:=@Array.all_eq_true_iff_forall_mem
abbrev BU:=@Nat.add_zero
abbrev Cd:=@World.cell?_setCell_same
abbrev Ct:=@Oper.semAt_some
abbrev Cy:=@List.cons_append
abbrev Cz:=@Below.alloc
abbrev CA:=@Nat.sub_self
abbrev CB:=@Below.drew
abbrev CQ:=@World.cell?_setCells_out
abbrev CR:=@List.getElem?_eq_getElem
abbrev CT:=@List.length_cons
abbrev CU:=@List.mem_cons
abbrev C4:=@List.size_toArray
abbrev C8:=@Met.intro
abbrev Da:=@World.cell?_alloc_at
abbrev De:=@World.frozen?_alloc_at
abbrev Dt:=@List.nil_append
abbrev Dy:=@World.ownsRow_made
abbrev DA:=@World.cell?_setCells_in
abbrev DB:=@Array.replicate_succ
abbrev DC:=@Array.replicate_zero
abbrev DK:=@Array.getElem?_eq_none
abbrev DL:=@World.frozen?_setCells
abbrev DM:=@List.append_toArray
abbrev DS:=@List.mem_filter
abbrev D0:=@List.length_filter_le
abbrev Ec:=@List.mem_map
abbrev Ez:=@Nat.add_sub_cancel_left
abbrev EA:=@List.push_toArray
abbrev Fc:=@Int.le_refl
abbrev Fd:=@List.getElem_mem
abbrev Fo:=@Bool.false_eq_true
abbrev Fs:=@World.frozen?_setCell
abbrev Ft:=@ByteArray.size_append
abbrev FL:=@Array.getElem?_eq_getElem
abbrev FU:=@List.length_nil
abbrev GV:=@List.filter_append
abbrev GX:=@Nat.mod_lt
abbrev Ia:=@ByteArray.data_append
abbrev IA:=@List.getD_eq_getElem?_getD
abbrev IB:=@List.mem_cons_of_mem
abbrev I7:=@List.getElem?_append_left
abbrev Jf:=@Calls.quiet_of_same
abbrev Jo:=@Bool.or_eq_true
abbrev JO:=@List.mem_cons_self
abbrev JS:=@Int.eq_ofNat_of_zero_le
abbrev KC:=@Array.any_eq_true
abbrev KD:=@Array.getElem_mem
abbrev KE:=@Nat.lt_trichotomy
abbrev KF:=@Nat.zero_mul
abbrev KG:=@Classical.em
abbrev Lc:=@List.take_append_drop
abbrev Lx:=@List.not_mem_nil
abbrev Ly:=@List.length_take
abbrev LR:=@World.cell?_alloc_lt
abbrev Ni:=@List.length_append
abbrev Nj:=@World.ownsMap_made
abbrev Nk:=@List.getElem?_append_right
abbrev Nl:=@List.pairwise_cons
abbrev Nm:=@Nat.add_sub_cancel
abbrev Oq:=@Nat.mul_one
abbrev Ot:=@Result.andThen_ok
abbrev Ou:=@World.ownsRow_nil
abbrev O7:=@World.frozen?_alloc_past
abbrev O8:=@List.map_cons
abbrev O9:=@Bool.eq_false_or_eq_true
abbrev Qm:=@List.map_toArray
abbrev Qn:=@WalkArith.wf_i64
abbrev Qo:=@List.ext_getElem
abbrev Qp:=@Classical.axiomOfChoice
def Za(h:P:=by omega):=h
def Zb(h:P:=by decide):=h
def Zc(h:P:=by kernel_rfl):=h
def Zd(h:P:=by simp;omega):=h
def Ze(h:P:=by simp):=h
def Zf(h:P:=by show w.1.size<_;omega):=h
def Zg(h:P:=by repeat(first|with_reducible exact AB.refl _ _|with_reducible refine JN ?_ (by(show _<=_\/_<_);simp only[Be,Av];omega) _|with_reducible refine AB.trans ?_ (Aj (Ak _ _)))):=h
def Zh(h:P:=by first|omega|(simp;omega)):=h
def Zi(h:P:=by show wr.1.size<_;omega):=h
def Zj(h:P:=by show b<_;omega):=h
def Zk(h:P:=by show w.1.size+1+1<_;omega):=h
def Zl(h:P:=by unfold maxLen;omega):=h
def Zm(h:P:=by simp[results,results59,go_sem,r0,r1,r2,r3,r4,r5,r6,r7,r8,z1,(show w.1.size+1+1<w1.1.size+1 by omega),LR]):=h
def Zn(h:P:=by show w.1.size+1<_;omega):=h
def Zo(h:P:=by rcases(VU j Za)with rfl|rfl|rfl|rfl|rfl<;>rfl):=h
def Zp(h:P:=by simpa using hb):=h
def Zq(h:P:=by have:=HB.size;simp;omega):=h
def Zr(h:P:=by simp[Lib.byteCells,Value.oneCell']):=h
def Zs(h:P:=by rw[kp 1 Zb];exact f1):=h
def Zt(h:P:=by show w.1.size+1+1+1<_;omega):=h
def Zu(h:P:=by rw[kp 0 Zb];exact f0):=h
def Zv(h:P:=by simp[results,results59,go_sem,r0,r1,r2,r3,r4,r5,r6,r7,r8,z1,(show w.1.size+1+1<w1.1.size+1 by omega),(show w.1.size+1+1<w1.1.size+1+1 by omega),LR]):=h
def Zw(h:P:=by rw[kp 2 Zb];exact f2):=h
def Zx(h:P:=by rw[kp 3 Zb];exact f3):=h
def Zy(h:P:=by rw[kp 4 Zb];exact f4):=h
def Zz(h:P:=by show b'<_;omega):=h
def kJ(h:P:=by rw[kp 10 Zb];exact f10):=h
def kP(h:P:=by rw[kp 11 Zb];exact f11):=h
def kV(h:P:=by rw[kp 12 Zb];exact f12):=h
def kL(h:P:=by rw[kp 10 Zb];exact f13):=h
def Ns(h:P:=by cases h):=h
def dx(h:P:=by simp;have:=hb.size;omega):=h
def Zag(h:P:=by simp only[Be];exact AG _):=h
def Zah(h:P:=by rw[At _ _ _ Ze];simp):=h
def Zai(h:P:=by repeat(first|with_reducible exact AB.refl _ _|with_reducible refine JN ?_ (by(show _<=_\/_<_);dsimp only;omega) _)):=h
def XP(h:P:=by simp;try omega):=h
def pf(h:P:=by rw[Al];rfl):=h
def kI(h:P:=by rw[kp 5 Zb];exact f5):=h
def kK(h:P:=by rw[kp 6 Zb];exact f6):=h
def kT(h:P:=by rw[kp 7 Zb];exact f7):=h
def kO(h:P:=by rw[kp 8 Zb];exact f8):=h
def kS(h:P:=by rw[kp 9 Zb];exact f9):=h
def kG(h:P:=by simp[Value.oneCell']):=h
def gX(h:P:=by have:=Y6.out;omega):=h
def Zas(h:P:=by have:=AU.size;simp at this;omega):=h
def iY(h:P:=by simpa using Fp):=h
def KV(h:P:=by rfl):=h
def XY(h:P:=by simp[AV]):=h
def cj(h:P:=by unfold Abp;omega):=h
def Zax(h:P:=by simp[results,results6,go_sem,y0,y1,y2,y3,y4]):=h
def Zay(h:P:=by rw[hz];show w.1.size<_;omega):=h
def Zaz(h:P:=by simp[results,results59,go_sem,r0,r1,r2,r3,r4,r5,r6,r7,r8]):=h
def Zba(h:P:=by simpa[Act.eval,go_sem]using AY):=h
def jj(h:P:=by unfold Ac3;omega):=h
def yx(h:P:=by rw[STEP.out];exact O2):=h
def Zbd(h:P:=by rw[hL];exact hk):=h
def Zbe(h:P:=by rw[kp 4 Zb,kp 3 Zb];exact i43):=h
def Zbf(h:P:=by rw[kp 5 Zb,kp 4 Zb];exact i54):=h
def Zbg(h:P:=by rw[kp 5 Zb,kp 1 Zb];exact i51):=h
def Zbh(h:P:=by rw[kp 3 Zb,kp 2 Zb];exact i32):=h
def Zbi(h:P:=by simp only[Be];omega):=h
def ri(h:P:=by show¬_=_;omega):=h
def Zbk(h:P:=by show(s2.size:Int)<=140737488355328;omega):=h
def Zbl(h:P:=by simp[results,results59,go_sem,r0,r1,r2,r3,r4,r5,r6,r7,r8,z1]):=h
def Zbm(h:P:=by exact AJ Y4 (GW.prop _).size):=h
def kH(h:P:=by exact AU):=h
def Zbo(h:P:=by exact AK.below Ks (GW.prop _) Y4):=h
def Zbp(h:P:=by show w1.1.size<_;omega):=h
def Zbq(h:P:=by rw[Bq];exact hj):=h
def Zbr(h:P:=by rw[e i hi];exact h0):=h
def Zbs(h:P:=by simp[results,results30,go_sem,r0,r1,r2,r3,r4,r5,r6]):=h
def Zbt(h:P:=by have:=hb.size;simp;omega):=h
def Zbu(h:P:=by simp;have:=LV.lt;omega):=h
def Zbv(h:P:=by simpa using b0):=h
def Zbw(h:P:=by simp[QH]):=h
def Zbx(h:P:=by rw[kp 2 Zb,kp 1 Zb];exact n21):=h
def Zby(h:P:=by rw[kp 3 Zb,kp 2 Zb];exact uv):=h
def Zbz(h:P:=by rw[kp 4 Zb,kp 3 Zb];exact n43):=h
def Zca(h:P:=by rw[kp 5 Zb,kp 4 Zb];exact n54):=h
def Zcb(h:P:=by rw[kp 4 Zb,kp 0 Zb];exact n40):=h
def Zcc(h:P:=by intro h;exact e3 (congrArg Addr.block h).symm):=h
def Zcd(h:P:=by rw[h];decide):=h
def Zce(h:P:=by rw[h];simp[h1]):=h
def Zcf(h:P:=by simp[results,results26,go_sem,y0,y1,y2]):=h
def Zcg(h:P:=by simp[results,results15,go_sem,y0,y1,y2]):=h
def Zch(h:P:=by rw[Bq];exact h):=h
def Zci(h:P:=by simpa using hi):=h
def Zcj(h:P:=by simpa using h1):=h
def Zck(h:P:=by show wr.1.size+1<_;omega):=h
def Zcl(h:P:=by simp[MF]):=h
def Zcm(h:P:=by rw[Dq];exact E9 Ig.out Zg):=h
def Zcn(h:P:=by rw[hs,hn]):=h
def Zco(h:P:=by rw[Nr]at h;cases h):=h
def Zcp(h:P:=by show b<W.1.size;omega):=h
def Zcq(h:P:=by have:=Ux.out;omega):=h
def Zcr(h:P:=by rw[<-BN];exact f1):=h
def Zcs(h:P:=by rw[<-BN];exact f2):=h
def Zct(h:P:=by rw[<-BN];exact f3):=h
def Zcu(h:P:=by rw[<-BN];exact f4):=h
def Zcv(h:P:=by rw[Fk];omega):=h
def Zcw(h:P:=by first|rfl|exact hen):=h
theorem A9:n<=n:=AG n
theorem Do{w:World}{o:Obj}:Below w.heap.size w (w.alloc o):=(Ap _ _).alloc (AG _) o
theorem Dx{B w}:Below B w w:=Ap B w
theorem S4:0<=n:=Ar n
def Di(h:P:=by have h:=hK _ X p' A9 Za rfl (AB.refl _ _) AW;refine Au rfl rfl ?_;clear hK hg;go_simp;simpa[AX]using h):=h
def MJ(h:P:=by have h:=hK _ X p' A9 Za rfl (AB.refl _ _) AW;refine Au rfl rfl ?_;clear hK hg;go_simp;simpa[AX,AY]using h):=h
def Xg2(h:P:=by
  have KP:B8 B v=8:=by unfold B8;rw[if_pos YC.out,if_pos hm]
  have mB:=Ab (show∀w',Below w.1.size w w'->Qc B v w (.returned (.tuple #[.agg #[.i 0,.bool false,.s ⟨#[]⟩,.s ⟨#[]⟩,.i 0,.i 0,.s ⟨#[]⟩,.bool false,.l none 0 0],.i 8])) w' from λw' hb=>⟨hb,AA ⟨by rw[KP];decide,by rw[KP]⟩⟩);clear KP;go_wp2;refine bodyPost_ret (v:=.tuple #[.agg #[.i 0,.bool false,.s ⟨#[]⟩,.s ⟨#[]⟩,.i 0,.i 0,.s ⟨#[]⟩,.bool false,.l none 0 0],.i 8]) Zaz rfl (mB.out _ (by repeat(first|with_reducible exact SG.out|with_reducible refine Bs ?_ Zh _|with_reducible refine Cz ?_ Zh _|with_reducible refine CB ?_)))):=h
def Xg3(h:P:=by
  have qf:=MC.ch.free;go_wp2;refine bi (λ_=>undef) n1 (w.1.size+1) A o.hn C _ v.hold o.hs 0 wr2.1.size wr2 hk Za Eg A9 MC.st.srcS Za Za o6 p5 (of 6) rfl _ ?_;rintro t v3 X ⟨FW,Jc⟩;obtain⟨A3,C3,rfl,CG⟩:=Ab2 hk FW;have S2:=Ab (MC.grow Jc);have HW:=Ab CG;have SG:=Ab S2.bel;have zX:=Jc.size;have szW:=sz;have zW:=z;clear FW CG Jc b0 p5 r0 r1 r2 r3 r4 r5 r6 r7 r8 o0 o1 o2 o3 o4 o5 o6 q0 q1 q2 q3 q4 q5 q6 q7 q8 rf of qf z sz;have z:=S2.z;have sz:=S2.sz;have b0:=S2.b0;have p5:=S2.p5;obtain⟨r0,r1,r2,r3,r4,r5,r6,r7,r8⟩:=Sc S2.r;obtain⟨o0,o1,o2,o3,o4,o5,o6⟩:=iE S2.ob;obtain⟨q0,q1,q2,q3,q4,q5,q6,q7,q8⟩:=Sc S2.ch;have rf:=S2.r.free;have of:=S2.ob.free;have qf:=S2.ch.free;by_cases hm:1000000<=B.v;.exact Xg2
  .have KP:B8 B v=0:=by unfold B8;rw[if_pos YC.out,if_neg hm]
   have PZ:=Ab KP;have cD:B.v<1000000:=Za;clear KP hm;go_wp2;refine bodyPost_ret (v:=.tuple #[.agg #[.i (B.v+1),.bool false,.s o.k,.s o.n,.i (B.v+1),.i o.b,.s o.m,.bool false,.l A3 (o.hn+1) C3],.i 0]) Zaz rfl ⟨by repeat(first|with_reducible exact SG.out|with_reducible refine Bs ?_ Zh _|with_reducible refine Cz ?_ Zh _|with_reducible refine CB ?_),Az ⟨PZ.out,A3,C3,?_,?_⟩⟩;.rw[HV.out]
   .rw[HN.out,HK.out];exact E9 HW.out Zai):=h
def Xg4(h:P:=by
  have Wq:(wr.drewN nq).cell? ⟨b,off+k,none⟩=some (.s (o.hs k)):=Dh;have Ad3:w2.1.size<=(wr.drewN nq).1.size:=szR;generalize wr.drewN nq=wr2 at MC Uu Wq Ad3⊢;clear b0 p5 r0 r1 r2 r3 r4 r5 r6 r7 r8 o0 o1 o2 o3 o4 o5 o6 q0 q1 q2 q3 q4 q5 q6 q7 q8 rf of qf z sz Dh szR;have z:=MC.z;have sz:=MC.sz;have b0:=MC.b0;have p5:=MC.p5;obtain⟨r0,r1,r2,r3,r4,r5,r6,r7,r8⟩:=Sc MC.r;obtain⟨o0,o1,o2,o3,o4,o5,o6⟩:=iE MC.ob;obtain⟨q0,q1,q2,q3,q4,q5,q6,q7,q8⟩:=Sc MC.ch;have rf:=MC.r.free;have of:=MC.ob.free;have qf:=MC.ch.free;rw[HEA.out]at o6;have BH:=Ru Uu.out.2 (Ak wr2 (.cells #[.s (o.hs k)] 9));go_wp2_with(at_builtin;go_must(refine wpList_append_own_at _ rfl _ _ 50 rfl w2.1.size 9 i0 _ 1 16 underlying50 Fq GH C7 Fk rfl Zb _ m1 (CK m1 (Lp o.hs (Gu o.hs v.hold o.hn))) rfl BH ⟨wr2.1.size,0,none⟩ 1 1 [.s (o.hs k)] rfl rfl (DI wr2 _ 9) kG Zl Za Zd ?_;intro v2 u2 Ht Bm Hs Uz;clear Hs Uz));have YA:=Ab (show Below w2.1.size w2 u2/\u2.ownsRow w2.1.size 9 1 v2 (Ij (Gu o.hs v.hold o.hn) (k+1)) (CK (Ij (Gu o.hs v.hold o.hn) (k+1)) (Lp o.hs (Gu o.hs v.hold o.hn)))from⟨(Uu.out.1.alloc Ad3 _).trans ((BB Bm).below (λq hq e=>by have:=(BH.lt q e).1;omega) Zd),by obtain⟨g1,g2⟩:=iQ o.hs HKP;rw[VM.out]at g1 g2;rw[g1,SR,g2];exact Ht⟩);clear BH Ht Bm;go_roundw;case rel=>exact⟨k+1,Za,by go_num,YA⟩
  case measure=>simp[intOf];omega):=h
def Xg5(h:P:=by go_wp2_with fail;refine(K9 o.hn o.hs A C v.hold _ 0 _ Za (E9 Ig.out Zg)).mono ?_;rintro e w2 ⟨rfl,rfl⟩;rw[HH.out];go_wp2;refine bodyPost_ret (v:=.tuple #[.agg #[.i 0,.bool false,.s ⟨#[]⟩,.s ⟨#[]⟩,.i 0,.i 0,.s ⟨#[]⟩,.bool false,.l none 0 0],.i 6]) Zm rfl ⟨rfl,by repeat(first|with_reducible exact HB.out|with_reducible refine Bs ?_ Zh _|with_reducible refine Cz ?_ Zh _|with_reducible refine CB ?_)⟩):=h
def jm(h:P:=by have q0:=(hb.cell (p:=⟨Bb,0,none⟩) Uw Ol).trans (By.cell 0 Zb);have q1:=(hb.cell (p:=⟨Bb,1,none⟩) Uw Ol).trans (By.cell 1 Zb);have q2:=(hb.cell (p:=⟨Bb,2,none⟩) Uw Ol).trans (By.cell 2 Zb);have q3:=(hb.cell (p:=⟨Bb,3,none⟩) Uw Ol).trans (By.cell 3 Zb);have q4:=(hb.cell (p:=⟨Bb,4,none⟩) Uw Ol).trans (By.cell 4 Zb);simp only[AV,Ac,Ad]at q0 q1 q2 q3 q4;exact Di):=h
def L7(h:P:=by have h:=hK _ X rfl Dx;refine Au rfl rfl ?_;clear hK hg;go_simp;simpa[AX,AY]using h):=h
def Xg8(h:P:=by
  obtain⟨b,off,eA,Gc,Ja,Dh⟩:=HS.st k B7;rw[eA]at o6;have HEA:=Ab eA;clear eA;by_cases tw:k=Gu o.hs v.hold o.hn
  .have HSK:=Ab (lH.out.2 k B7);have OC:o.hs k=v.hold:=HSK.out.2 tw;have HKP:=Ab tw;clear tw;rw[OC]at Dh;clear OC;go_wp2;go_quiet(fail);go_wp2;go_roundw;case rel=>exact⟨k+1,Za,by go_num,Ab ⟨HR.out.1.trans ((BY _ _).mono szR),by rw[show Ij (Gu o.hs v.hold o.hn) (k+1)=Ij (Gu o.hs v.hold o.hn) k from by rw[HKP.out];exact gW _];exact Ru (HR.out.2) (BY _ _)⟩⟩
   case measure=>simp[intOf];omega
  .have OC:¬o.hs k=v.hold:=λe=>tw ((lH.out.2 k B7).1 e);have CF:=zQ OC;have HKP:=Ab tw;have Om:=ow (Gu o.hs v.hold o.hn) k;obtain⟨m1,hm1⟩:∃m1,Ij (Gu o.hs v.hold o.hn) k=m1:=⟨_,rfl⟩;have VM:=Ab hm1;rw[hm1]at Om;clear tw OC hm1;go_wp2;go_quiet(fail);have MC:=Ab (HS.grow (BY wr nq));have Uu:=Ab (show Below w2.1.size w2 (wr.drewN nq)/\(wr.drewN nq).ownsRow w2.1.size 9 1 u11 m1 (CK m1 (Lp o.hs (Gu o.hs v.hold o.hn)))from⟨HR.out.1.trans ((BY _ _).mono szR),by rw[<-VM.out];exact Ru (HR.out.2) (BY _ _)⟩);exact Xg4):=h
def Xg9(h:P:=by
  have KP:B8 B v=8:=by unfold B8;rw[if_pos YC.out,if_pos hm]
  have mB:=Ab (show∀w',Below w.1.size w w'->Qc B v w (.returned (.tuple #[.agg #[.i 0,.bool false,.s ⟨#[]⟩,.s ⟨#[]⟩,.i 0,.i 0,.s ⟨#[]⟩,.bool false,.l none 0 0],.i 8])) w' from λw' hb=>⟨hb,AA ⟨by rw[KP];decide,by rw[KP]⟩⟩);clear KP;go_wp2;refine bodyPost_ret (v:=.tuple #[.agg #[.i 0,.bool false,.s ⟨#[]⟩,.s ⟨#[]⟩,.i 0,.i 0,.s ⟨#[]⟩,.bool false,.l none 0 0],.i 8]) Zm rfl (mB.out _ (by repeat(first|with_reducible exact HB.out|with_reducible refine Bs ?_ Zh _|with_reducible refine Cz ?_ Zh _|with_reducible refine CB ?_)))):=h
def XI(h:P:=by go_enter func86,ntmps86;go_wp2_with(first|(go_at_call 80;refine(Dm _ _ (by first|exact fk|exact fn)).mono ?_;rintro e w1 ⟨rfl,rfl⟩)|(go_at_call 62;refine(FK _ _ _ _).mono ?_;rintro e w1 ⟨rfl,rfl⟩)|(go_at_call 105;refine(oe x.hn x.hs ad cap _ lo hi vi fs (Tj _)).mono ?_;rintro e w1 ⟨rfl,q,rfl⟩));go_ret;exact⟨A7 HE.symm,by first|exact AC _ _|exact(AC _ _).trans ((BY _ _).mono Ze)⟩):=h
def ci(h:P:=by have h:=hK _ X p' A9 Za rfl (AB.refl _ _) AW;refine Au rfl rfl ?_;clear hK hg;go_simp;simpa[AX,AY,Ff,hlt]using h):=h
def aP(h:P:=by go_enter func92,ntmps92;go_wp2_with(first|(go_at_call 107;refine(Iw _ _ (by first|exact fk|exact fn)).mono ?_;rintro e w1 ⟨rfl,rfl⟩)|(go_at_call 46;refine(Gd _ _ _ _).mono ?_;rintro e w1 ⟨rfl,rfl⟩)|(go_at_call 108;refine(UE x.hn x.hs ad cap _ lo hi vi fs (Tj _)).mono ?_;rintro e w1 ⟨rfl,q,rfl⟩));go_ret;exact⟨A7 HE.symm,by first|exact AC _ _|exact(AC _ _).trans ((BY _ _).mono Ze)⟩):=h
def Vb(h:P:=by refine Au rfl rfl ?_;have HK:=Ab hK;have HR:=Ab AW;clear hK hg AW;go_simp;go_at_call 16;refine(Bt R ad nn cap p' 3 X HR Za Zb Zb).mono ?_;rintro r Z ⟨k,rfl,_,hv,hf,Me⟩;have h:=HK (.i k) Z (p'+1) Za A9 ⟨k,by have:=hv Zb;omega,rfl⟩ hf Me;simpa[AX,AY]using h):=h
def Ae9(h:P:=by
  refine cW (jT HS.ans.row) rfl rfl (Aa8 HN ⟨?_,a1,a2,a3,c1,c2,c3,rfl,?_⟩);.exact HB.trans ((dq (.i 2) (.i B.v) (.i B.f) (.l a1 B.on c1) (.l a2 B.hn c2) (.l a3 B.tn c3) (.i 0)).below (λq hq e=>by have e':q=w.1.size+1+1:=e;omega) zb)
  .exact((HS.bin.below ((dq (.i 2) (.i B.v) (.i B.f) (.l a1 B.on c1) (.l a2 B.hn c2) (.l a3 B.tn c3) (.i 0)).below (B:=w.1.size) (λq hq e=>by have e':q=w.1.size+1+1:=e;omega) zb) A9)).upTo Zbi):=h
def JC(h:P:=by refine Au rfl rfl ?_;clear hK hg;go_simp;simpa[AX]using h):=h
def yT(h:P:=by
  refine AP Zc Zc ?_;repeat(go_big_quiet_step((first|(go_at_call 80;exact B4 ((Dm _ _ tz).mono (λe w' h=>⟨h.1,h.2▸Ap _ _⟩)))|(go_at_call 62;exact B4 ((FK _ _ _ _).mono (λe w' h=>⟨h.1,h.2▸Ap _ _⟩))))))
  refine wpQuiet_nil ?_;rintro w2 ⟨u,hu⟩;have Dq:Below (wr.1.size+1) (wr.alloc (.cells (vT (x (m+1))) 132)) w2:=by have h9:=hu▸u.prop;simpa using h9
  clear hu u;go_wp2;go_ret;exact⟨A7 HE.symm,(IK.alloc IK.size _).trans (Dq.mono Za)⟩):=h
def vZ(h:P:=by
  refine AP Zc Zc ?_;repeat(go_big_quiet_step((first|(go_at_call 80;exact B4 ((Dm _ _ tz).mono (λe w' h=>⟨h.1,h.2▸Ap _ _⟩)))|(go_at_call 62;exact B4 ((FK _ _ _ _).mono (λe w' h=>⟨h.1,h.2▸Ap _ _⟩))))))
  refine wpQuiet_nil ?_;rintro w2 ⟨u,hu⟩;have Dq:Below (wr.1.size+1) (wr.alloc (.cells (vT (x (k))) 132)) w2:=by have h9:=hu▸u.prop;simpa using h9
  clear hu u;go_wp2;go_ret;exact⟨A7 HE.symm,(IK.alloc IK.size _).trans (Dq.mono Za)⟩):=h
def aS(h:P:=by simp only[AV,Ac,Ad]at q;exact MJ):=h
def Aip(h:P:=by have RW:=Ab (gZ (v0:=.i x.v) (v1:=.i (x.f+(j:Nat))) (v2:=.l b1 x.on d1) (v3:=.l ug (x.hn-j:Nat) Su) (v4:=.l b3 x.tn d3) rr);have HE:=Ab Ad1;clear rr Ad1;go_wp2;have rw:=RW.out;obtain⟨u0,u1,u2,u3,u4⟩:=JQ rw;refine bodyPost_ret (v:=.agg #[.i x.v,.i (x.f+(j:Nat)),.l b1 x.on d1,.l ug (x.hn-j:Nat) Su,.l b3 x.tn d3]) (by simp[results,results32,go_sem,u0,u1,u2,u3,u4]) rfl ?_;have FF:AB (λq=>q=w.1.size+1) wr _:=(((((AB.refl _ wr).setCell (p:=⟨w.1.size+1,0,none⟩) KV (.i x.v)).setCell (p:=⟨w.1.size+1,1,none⟩) KV (.i (x.f+(j:Nat)))).setCell (p:=⟨w.1.size+1,2,none⟩) KV (.l b1 x.on d1)).setCell (p:=⟨w.1.size+1,3,none⟩) KV (.l ug (x.hn-j:Nat) Su)).setCell (p:=⟨w.1.size+1,4,none⟩) KV (.l b3 x.tn d3);rw[<-HE.out];have zwr:=hb.size;have eC:∀q t,w1.1.size<=q->q<wr.1.size->World.cell? _ ⟨q,t,none⟩=wr.cell? ⟨q,t,none⟩:=λq t h1 h2=>FF.cell (p:=⟨q,t,none⟩) h2 (by show¬q=w.1.size+1;omega);have eO:∀q t,w1.1.size<=q->q<w2.1.size->World.cell? _ ⟨q,t,none⟩=w2.cell? ⟨q,t,none⟩:=λq t h1 h2=>(eC q t h1 Za).trans (hb.cell (p:=⟨q,t,none⟩) h2);have FIN:=And.intro (show BL _ w.1.size _ (Jm x j) b1 ug b3 from⟨HX.o.to eO Za (AJ zwr FF.size),((HC.fr FF (λq h1 _ _ e=>by omega)).chgs hj Qw (λi hi'=>(Ig i hi').to eO) (AJ zwr FF.size)).to (λ_ _ _ _=>rfl) Za A9,HX.t.to eO Za (AJ zwr FF.size)⟩) ((Ds.trans (hb.mono Ds.size)).trans (FF.below (λq hq e=>by omega) Za));exact⟨b1,ug,b3,d1,Su,d3,rfl,FIN.1,HCT.grow (AJ zwr FF.size),FIN.2⟩):=h
def Ah6(h:P:=by
  have rr:∀j,X.cell? ⟨w.1.size+1+1+1,j,none⟩=X0.cell? ⟨w.1.size+1+1+1,j,none⟩:=λj=>hf.cell (p:=⟨w.1.size+1+1+1,j,none⟩) Zt (MD _ Zt (by show¬w.1.size+1+1+1=Bn;omega));have r0:=(rr 0).trans HR0;have r1:=(rr 1).trans kh;have r2:=(rr 2).trans Uu;have rf:∀j,X.frozen? ⟨w.1.size+1+1+1,j,none⟩=false:=λj=>(hf.frozen (p:=⟨w.1.size+1+1+1,j,none⟩) Zt (MD _ Zt (by show¬w.1.size+1+1+1=Bn;omega))).trans (HRF j);have rf0:=rf 0;have rf1:=rf 1;have rf2:=rf 2;have P1:=Ab bd;have HHF:=Ab hf;have VN:=Ab Ur;have HNV:=Ab hnv;have HK:=Ab hK;clear bd hf rr rf Ur hnv n1;gi_wp2;obtain⟨Y,hY,kY,fY,y0,y1,y2⟩:=mv (v0:=.i 0) (v1:=.l ad nl cap) (v2:=.i nv) HK r0 r1 r2 (show D≠w.1.size+1+1+1 by omega);rw[hY];have FD:AB (λq=>q=D) Y (Y.putObj D (.deferred none)):=BB (grownBy_putObj' Y D (.deferred none))|>.mono (λq e=>by cases e;rfl);have bdY:=((P1.fr fY (λq hq _ e=>by omega)).turn (grownBy_putObj' Y D (.deferred none)) (λr e=>by cases e;exact⟨_,kY,rfl⟩)).lower (b':=w.1.size) Za;have bY:=((Pa.trans (HHF.below (λq hq e=>by rw[HPK.out]at e;omega) Za)).trans (fY.below (λq hq e=>by omega) Za)).trans (FD.below (λq hq e=>by omega) (by have:=fY.size;omega));refine⟨Ze,.inl ⟨_,_,rfl,run_takeDeferred kY,?_⟩⟩;refine⟨.agg #[.i 0,.l ad nl cap,.i nv],by simp[results,results26,go_sem,y0,y1,y2],.l ad nl cap,A,C,hb,?_,?_,?_⟩;.rw[HF.out,HNV.out]
  .rw[HL.out];rw[<-HXK.out];exact bdY
  .exact bY):=h
def Aio(h:P:=by
  obtain⟨k,hk,rfl,HR⟩:=hrel;have szW:=sz;have zW:=z;clear LV b0 p5 r0 r1 r2 r3 r4 r5 r6 r7 r8 o0 o1 o2 o3 o4 o5 o6 q0 q1 q2 q3 q4 q5 q6 q7 q8 rf of qf z sz;have HS:=Ab (Hk.grow HR.out.1);have szR:=HR.out.1.size;have z:=HS.z;have sz:=HS.sz;have b0:=HS.b0;have p5:=HS.p5;obtain⟨r0,r1,r2,r3,r4,r5,r6,r7,r8⟩:=Sc HS.r;obtain⟨o0,o1,o2,o3,o4,o5,o6⟩:=iE HS.ob;obtain⟨q0,q1,q2,q3,q4,q5,q6,q7,q8⟩:=Sc HS.ch;have rf:=HS.r.free;have of:=HS.ob.free;have qf:=HS.ch.free;by_cases B7:k<o.hn;.exact Xg8
  .obtain rfl:k=o.hn:=Za;rw[Xn lH.out.1,HM.out]at HR;obtain⟨A3,C3,rfl,CG⟩:=TE (HR.out.2);have HW:=Ab CG;have SG:=Ab HS.bel;clear CG;by_cases hm:1000000<=B.v;.exact Xg2
   .have KP:B8 B v=0:=by unfold B8;rw[if_pos YC.out,if_neg hm]
    have PZ:=Ab KP;have cD:B.v<1000000:=Za;clear KP hm;go_wp2;refine bodyPost_ret (v:=.tuple #[.agg #[.i (B.v+1),.bool ((m:Int)==0),.s o.k,.s o.n,.i (B.v+1),.i o.b,.s o.m,.bool true,.l A3 m C3],.i 0]) Zaz rfl ⟨by repeat(first|with_reducible exact SG.out|with_reducible refine Bs ?_ Zh _|with_reducible refine Cz ?_ Zh _|with_reducible refine CB ?_),Az ⟨PZ.out,A3,C3,?_,?_⟩⟩;.rw[HV.out]
    .rw[HN.out];exact E9 HW.out Zai):=h
def Aif(h:P:=by
  rintro e w2 ⟨rfl,Dq⟩;rw[HH.out];have Hk:=Ab (xJ (e:=true) (B:=B) (v:=v) (o:=o) Dq z1 HB.out b0 p5 Y2 r0 r1 r2 r3 r4 r5 r6 r7 r8 Zcm);clear b0 b1 b2 b3 b4 p0 p1 p2 p3 p4 p5 r0 r1 r2 r3 r4 r5 r6 r7 r8 Y1 Y2 z1 zA zB VK VL VG VQ VI VO;generalize Mz:w1.1.size=n1 at*;clear Mz Dq HB Ig;have z:=Hk.z;have sz:=Hk.sz;have b0:=Hk.b0;have p5:=Hk.p5;obtain⟨r0,r1,r2,r3,r4,r5,r6,r7,r8⟩:=Sc Hk.r;obtain⟨o0,o1,o2,o3,o4,o5,o6⟩:=iE Hk.ob;obtain⟨q0,q1,q2,q3,q4,q5,q6,q7,q8⟩:=Sc Hk.ch;have rf:=Hk.r.free;have of:=Hk.ob.free;have qf:=Hk.ch.free;go_wp2;have LV:=Ab (show(w2.alloc (.cells #[] 9)).ownsRow w2.1.size 9 1 (.l (some ⟨w2.1.size,0,none⟩) 0 0) (Ij (Gu o.hs v.hold o.hn) 0) (CK (Ij (Gu o.hs v.hold o.hn) 0) (Lp o.hs (Gu o.hs v.hold o.hn)))from by
   have:Ij (Gu o.hs v.hold o.hn) 0=0:=by unfold Ij;simp
   rw[this];simpa[CK]using Dy (base:=w2.1.size) (e:=9) (size:=1) w2 #[] 0 Ze S4 rfl);go_loopw[11,12](λu i wr=>∃k:Nat,k<=o.hn/\i=.i k/\Hid (Below w2.1.size w2 wr/\wr.ownsRow w2.1.size 9 1 u (Ij (Gu o.hs v.hold o.hn) k) (CK (Ij (Gu o.hs v.hold o.hn) k) (Lp o.hs (Gu o.hs v.hold o.hn))))) (λ_ i _=>o.hn-(intOf i).toNat);case atStart=>exact⟨0,Ar _,rfl,Ab ⟨Ak _ _,LV⟩⟩
  case round=>exact Aio):=h
def Aid(h:P:=by
  obtain⟨k,hk,rfl,HR⟩:=hrel;have szW:=sz;have zW:=z;clear LV b0 p5 r0 r1 r2 r3 r4 r5 r6 r7 r8 o0 o1 o2 o3 o4 o5 o6 q0 q1 q2 q3 q4 q5 q6 q7 q8 rf of qf z sz;have HS:=Ab (Hk.grow HR.out.1);have szR:=HR.out.1.size;have z:=HS.z;have sz:=HS.sz;have b0:=HS.b0;have p5:=HS.p5;obtain⟨r0,r1,r2,r3,r4,r5,r6,r7,r8⟩:=Sc HS.r;obtain⟨o0,o1,o2,o3,o4,o5,o6⟩:=iE HS.ob;obtain⟨q0,q1,q2,q3,q4,q5,q6,q7,q8⟩:=Sc HS.ch;have rf:=HS.r.free;have of:=HS.ob.free;have qf:=HS.ch.free;by_cases B7:k<o.hn;.exact Xg8
  .obtain rfl:k=o.hn:=Za;rw[Xn lH.out.1,HM.out]at HR;obtain⟨A3,C3,rfl,CG⟩:=TE (HR.out.2);have HW:=Ab CG;have SG:=Ab HS.bel;clear CG;by_cases hm:1000000<=B.v;.exact Xg2
   .have KP:B8 B v=0:=by unfold B8;rw[if_pos YC.out,if_neg hm]
    have PZ:=Ab KP;have cD:B.v<1000000:=Za;clear KP hm;go_wp2;refine bodyPost_ret (v:=.tuple #[.agg #[.i (B.v+1),.bool false,.s o.k,.s o.n,.i (B.v+1),.i o.b,.s o.m,.bool false,.l A3 m C3],.i 0]) Zaz rfl ⟨by repeat(first|with_reducible exact SG.out|with_reducible refine Bs ?_ Zh _|with_reducible refine Cz ?_ Zh _|with_reducible refine CB ?_),Az ⟨PZ.out,A3,C3,?_,?_⟩⟩;.rw[HV.out]
    .rw[HN.out];exact E9 HW.out Zai):=h
def Aia(h:P:=by
  rintro e w2 ⟨rfl,Dq⟩;rw[HH.out];have Hk:=Ab (xJ (e:=false) (B:=B) (v:=v) (o:=o) Dq z1 HB.out b0 p5 Y2 r0 r1 r2 r3 r4 r5 r6 r7 r8 Zcm);clear b0 b1 b2 b3 b4 p0 p1 p2 p3 p4 p5 r0 r1 r2 r3 r4 r5 r6 r7 r8 Y1 Y2 z1 zA zB VK VL VG VQ VI VO;generalize Mz:w1.1.size=n1 at*;clear Mz Dq HB Ig;have z:=Hk.z;have sz:=Hk.sz;have b0:=Hk.b0;have p5:=Hk.p5;obtain⟨r0,r1,r2,r3,r4,r5,r6,r7,r8⟩:=Sc Hk.r;obtain⟨o0,o1,o2,o3,o4,o5,o6⟩:=iE Hk.ob;obtain⟨q0,q1,q2,q3,q4,q5,q6,q7,q8⟩:=Sc Hk.ch;have rf:=Hk.r.free;have of:=Hk.ob.free;have qf:=Hk.ch.free;go_wp2;have LV:=Ab (show(w2.alloc (.cells #[] 9)).ownsRow w2.1.size 9 1 (.l (some ⟨w2.1.size,0,none⟩) 0 0) (Ij (Gu o.hs v.hold o.hn) 0) (CK (Ij (Gu o.hs v.hold o.hn) 0) (Lp o.hs (Gu o.hs v.hold o.hn)))from by
   have:Ij (Gu o.hs v.hold o.hn) 0=0:=by unfold Ij;simp
   rw[this];simpa[CK]using Dy (base:=w2.1.size) (e:=9) (size:=1) w2 #[] 0 Ze S4 rfl);go_loopw[11,12](λu i wr=>∃k:Nat,k<=o.hn/\i=.i k/\Hid (Below w2.1.size w2 wr/\wr.ownsRow w2.1.size 9 1 u (Ij (Gu o.hs v.hold o.hn) k) (CK (Ij (Gu o.hs v.hold o.hn) k) (Lp o.hs (Gu o.hs v.hold o.hn))))) (λ_ i _=>o.hn-(intOf i).toNat);case atStart=>exact⟨0,Ar _,rfl,Ab ⟨Ak _ _,LV⟩⟩
  case round=>exact Aid):=h
def RI(h:P:=by have h:=hK _ X rfl Dx;refine Au rfl rfl ?_;clear hK hg;go_simp;rw[if_neg Za,BK];go_simp;simpa[AX,AY]using h):=h
def Af5(h:P:=by
  go_wp2_with(go_at_call 40;go_must(refine(JD e.ob e.A e.C _).mono ?_;rintro e2 w2 ⟨rfl,BT⟩));refine(Po e.ob R ad g cap L w2 (by have:=BT.size;omega) uk ((BT.cell (p:=⟨R,0,none⟩) hR1).trans c1) ((BT.frozen (p:=⟨R,0,none⟩) hR1).trans gM) (Aha.grow BT) hl).mono ?_;rintro e3 w3 ⟨rfl,c3,f3,Aen,FP⟩;have Fk:=BT.size;have YG:=FP.size;have Ad0:Gp w3 w.1.size (CJ e.ob e.A e.C):=λi=>by
   refine(FP.cell (p:=⟨w.1.size,i,none⟩) Zf ?_).trans ((Aec.below BT zx) i);rintro(h|⟨h1,h2⟩);.have:w.1.size=R:=h;omega
   .have h2:w.1.size=g:=h2;rcases Ig.out with⟨_,h3,_⟩|⟨_,h3,_⟩;.exact h1 h3
    .have:=h3.lt;omega
  have HX3:=Ab Ad0;have gP:=Ab Aen;have ky:=Ab FP;have oS:=Ab c3;have HZ3:=Ab f3;have Ah3:Below w.1.size w w2:=hBB.trans (BT.mono Za);clear c3 f3 Aen FP Ad0 x0 x1 x2 x3 x4 x5 x6 c1 BT;go_wp2;refine Ab9 _ _ _ _ _ _ _ _ _ _ _ _ _ _ _ _ _ _ _ R w.1.size ad g cap (Jk e.ob L) _ e w3 gP (Xx HPL) (by have:=D0 (λx:EO=>CV e.ob x.ob) L;unfold Jk;omega) HX3 Za Za oS HZ3 _ ?_;intro t g' cap' X z1 z2 cX fX rX hfX;have jY:=Ab cX;have js:=Ab fX;have HRX:=Ab rX;have HX:=Ab ((((Aj (P:=λq=>q=R\/(L≠[]/\q=g)) Ah3).trans ky)).trans (hfX.mono (λq h=>AA h)));clear cX fX rX hfX;go_wp2;go_end0;exact⟨_,g',cap',rfl,HPL,Za,z2,jY,js,HRX,HX⟩):=h
def Agb(h:P:=by intro t X K p' hb CO Dj AW hg hK;obtain⟨cd,V,f1,f2,f3,h1,h2,h3,ve,g4,hV⟩:=hg 4 Za Za;obtain⟨z,g5,hz,Wl,ux⟩:=hg 5 Za Za;have rf:=Wl.free;have rl:=Wl.lt;obtain⟨r0,r1,r2,r3,r4,r5,r6⟩:=iE Wl;have R6:=(((((((Wl.set (o:=0) Za (.i cd)).set (o:=1) Za (.i V.v)).set (o:=2) Za (.i V.f)).set (o:=3) Za (.l f1 V.on h1)).set (o:=4) Za (.l f2 V.hn h2)).set (o:=5) Za (.l f3 V.tn h3)).set (o:=6) Za (.i ve));have F6:=hb.far7 (z:=z) hz (.i cd) (.i V.v) (.i V.f) (.l f1 V.on h1) (.l f2 V.hn h2) (.l f3 V.tn h3) (.i ve);have D6:=hr.far7 AW (z:=z) hz (.i cd) (.i V.v) (.i V.f) (.l f1 V.on h1) (.l f2 V.hn h2) (.l f3 V.tn h3) (.i ve);have B6:=hV.pick ((((((((AB.refl (λq=>q=z) X).setCell (p:=⟨z,0,none⟩) rfl (.i cd)).setCell (p:=⟨z,1,none⟩) rfl (.i V.v)).setCell (p:=⟨z,2,none⟩) rfl (.i V.f)).setCell (p:=⟨z,3,none⟩) rfl (.l f1 V.on h1)).setCell (p:=⟨z,4,none⟩) rfl (.l f2 V.hn h2)).setCell (p:=⟨z,5,none⟩) rfl (.l f3 V.tn h3)).setCell (p:=⟨z,6,none⟩) rfl (.i ve)) ux;have h:=hK _ _ ⟨t,z,cd,V,f1,f2,f3,h1,h2,h3,ve,p',rfl,g5,hz,⟨R6.lt,R6.free,λj hj=>by rw[R6.cell j hj];rcases(YP j Za)with rfl|rfl|rfl|rfl|rfl|rfl|rfl<;>rfl⟩,B6,F6,CO,Za,D6⟩;have HK:=Ab h;clear hK hg Wl h R6 F6 D6 B6;refine Au rfl rfl ?_;go_simp;simpa[g4,g5]using HK.out):=h
def ny(h:P:=by have q0:=(hb.cell (p:=⟨zm,0,none⟩) hmz hmR).trans (hmr.cell 0 Zb);have q1:=(hb.cell (p:=⟨zm,1,none⟩) hmz hmR).trans (hmr.cell 1 Zb);have q2:=(hb.cell (p:=⟨zm,2,none⟩) hmz hmR).trans (hmr.cell 2 Zb);have q3:=(hb.cell (p:=⟨zm,3,none⟩) hmz hmR).trans (hmr.cell 3 Zb);have q4:=(hb.cell (p:=⟨zm,4,none⟩) hmz hmR).trans (hmr.cell 4 Zb);simp only[AV,Ac,Ad]at q0 q1 q2 q3 q4;exact MJ):=h
def Ae6 (h:P:=by go_wp2;go_quiet(fail);have MC:=Ab (HS.grow (BY wr nq));generalize wr.drewN nq=wr2 at MC⊢;clear b0 p5 r0 r1 r2 r3 r4 r5 r6 r7 r8 o0 o1 o2 o3 o4 o5 o6 q0 q1 q2 q3 q4 q5 q6 q7 q8 rf of qf z sz;have z:=MC.z;have sz:=MC.sz;have b0:=MC.b0;have p5:=MC.p5;obtain⟨r0,r1,r2,r3,r4,r5,r6,r7,r8⟩:=Sc MC.r;obtain⟨o0,o1,o2,o3,o4,o5,o6⟩:=iE MC.ob;obtain⟨q0,q1,q2,q3,q4,q5,q6,q7,q8⟩:=Sc MC.ch;have rf:=MC.r.free;have of:=MC.ob.free;exact Xg3):=h
def Aim (h:P:=by
  have rf:=Hk.r.free;have of:=Hk.ob.free;have qf:=Hk.ch.free;go_wp2;go_loopw[10](λi wr=>∃k:Nat,k<=o.hn/\i=.i k/\(∀j,j<k->Gt (o.hs j) v.hold=true)/\Hid (S5 w n1 B v o false A C wr)) (λi _=>o.hn-(intOf i).toNat);case atStart=>exact⟨0,Ar _,rfl,λj hj=>absurd hj (Ae _),Hk⟩
  case round=>
   obtain⟨k,hk,rfl,Bg,HS⟩:=hrel;have HA:=Ab Bg;clear Bg Hk b0 p5 r0 r1 r2 r3 r4 r5 r6 r7 r8 o0 o1 o2 o3 o4 o5 o6 q0 q1 q2 q3 q4 q5 q6 q7 q8 rf of qf z sz;have z:=HS.z;have sz:=HS.sz;have b0:=HS.b0;have p5:=HS.p5;obtain⟨r0,r1,r2,r3,r4,r5,r6,r7,r8⟩:=Sc HS.r;obtain⟨o0,o1,o2,o3,o4,o5,o6⟩:=iE HS.ob;obtain⟨q0,q1,q2,q3,q4,q5,q6,q7,q8⟩:=Sc HS.ch;have rf:=HS.r.free;have of:=HS.ob.free;have qf:=HS.ch.free;by_cases B7:k<o.hn;.obtain⟨b,off,eA,Gc,Ja,Dh⟩:=HS.st k B7;cases hlt:Gt (o.hs k) v.hold with
    |true=>
     have St:=Ab (show∀j,j<k+1->Gt (o.hs j) v.hold=true from λj hj=>by
      rcases AD j k with h3|h3;.exact HA j h3
      .obtain rfl:j=k:=Za;exact hlt);have MV:Op.bytesLess (o.hs k).toList v.hold.toList=true:=hlt;rw[eA]at o6;clear hlt;go_wp2;go_quiet(fail);go_wp2;go_roundw;case rel=>exact⟨k+1,Za,by go_num,St,Ab (HS.grow (BY _ _))⟩
     case measure=>simp[intOf];omega
    |false=>have HK:=Ab (aZ hk HA (λ_=>hlt));have MV:Op.bytesLess (o.hs k).toList v.hold.toList=false:=hlt;rw[eA]at o6;clear hlt;exact Ae6
   .obtain rfl:k=o.hn:=Za;have HK:=Ab (aZ hk HA (λh=>absurd h B7));exact Ae6):=h
def Afq (h:P:=by
  have oS:=Ab Kd;clear Kd;obtain⟨hs,hb⟩:=bC w B c a1 a2 a3 c1 c2 c3 u1 u2 d1 d2 No PU;have HF:=Ab hf;have HCF:=Ab Um;have hnc:=Um.n;clear hf Um;go_enter func55,ntmps55;go_upto_region 1 with fail;generalize((((w.alloc (.cells (vB B a1 a2 a3 c1 c2 c3) 36)).alloc (.cells (vC c u1 u2 d1 d2) 121)).alloc (.cells #[.i 0,.i 0,.l none 0 0,.l none 0 0,.l none 0 0] 36)).alloc (.cells #[.i 0,.i 0,.bool false] 112))=W1 at hs hb⊢;have HS:=Ab hs;have HB:=Ab hb;clear hs hb No PU;obtain⟨p0,p1,p2,p3,p4⟩:=zI HS.bk;obtain⟨q0,q1,q2,q3⟩:=CH4 HS.ca;obtain⟨c5,r5⟩:=HS.an.row;obtain⟨c3x,r3⟩:=HS.sd.row;have m0:=r5.cell 0 Za;have m1:=r5.cell 1 Za;have m2:=r5.cell 2 Za;have m3:=r5.cell 3 Za;have m4:=r5.cell 4 Za;have n0:=r3.cell 0 Za;have n1:=r3.cell 1 Za;have n2:=r3.cell 2 Za;have mf:=r5.free;have nf:=r3.free;have mz:=r5.lt;have nz:=r3.lt;have zz:=HS.lt;go_wp2_with first|(go_at_call 80;go_must(refine(Dm _ _ hnc).mono ?_;rintro e w1 ⟨rfl,rfl⟩;rw[hn]))|(go_at_call 62;go_must(refine(FK _ _ _ _).mono ?_;rintro e w1 ⟨rfl,rfl⟩;rw[Cs]))
  obtain⟨x1,x2,x3,x4⟩:=HS.done HB rfl (.i B.v) (.i B.f) (.l a1 B.on c1) (.l a2 B.hn c2) (.l a3 B.tn c3) (.i 1) (.i 0) (.bool false);exact Uc x1 x2 rfl rfl ⟨x3,a1,a2,a3,c1,c2,c3,rfl,x4 HS.bin,oS.grow x3.size⟩):=h
def Ae5 (h:P:=by
  have z11:=P7.ltW;have Aal:=Ab (show Kw W11 (LM B c).tn Ld KH from by rw[SJ];exact Us);clear Us;have HPB:=Ab (show BL W11 0 W11.1.size (LM B c) b1 b2 Ld from⟨λi hi=>(P7.bin.upTo (by omega:E<=W11.1.size)).o i hi,λi hi=>(P7.bin.upTo (by omega:E<=W11.1.size)).h i hi,by rw[SJ];exact HT9.dn S4⟩);obtain⟨k0,k1,k2,k3,k4⟩:=JQ jx;have g0:=P7.did 0 Ze;have g6:=P7.did 6 Ze;simp only[AV,Ac,Ad]at g0 g6;have zz:=P7.a8.lt;have zb:=YW.size;refine fB (λi=>undef) (w6.1.size) E (w.1.size+1+1) (w.1.size+1+1+1) (LM B c) (CM B c.bu) (Dc B c.bu) b1 b2 Ld e1 e2 KH W11 jx.lt k0 k1 k2 k3 k4 z11 g0 g6 P7.a8.an P7.a8.sd Za Za Za rfl _ ?_;intro t2 X9 hX x1 x2;have j8:=Ab hX;have X1:=Ab x1;have X2:=Ab x2;clear hX x1 x2 k0 k1 k2 k3 k4 g0 g6 SJ;go_wp2;have BX:=j8.below (B:=w.1.size) (λq hq e=>by rcases e with e|e<;>(have e':q=_:=e;omega)) zb;have HNO:∀q,(q=w.1.size+1+1\/q=w.1.size+1+1+1)->IC W11 q:=λq e=>by
   rcases e with e|e;.rw[e];exact P7.a8.an.no
   .rw[e];exact P7.a8.sd.no
  exact Uc X1 X2 rfl rfl (U5 HQ ⟨YW.trans BX,b1,b2,Ld,e1,e2,KH,rfl,(HPB.boxP j8 HNO A9).upTo j8.size,Aal.grow j8.size⟩)):=h
def U4 (h:P:=by have h:=hK _ X rfl Dx;refine Au rfl rfl ?_;clear hK hg;go_simp;rw[if_neg Za,BK];go_simp;simpa[AX,AY,Ff]using h):=h
def Aex (h:P:=by
  have BW2:=Ab (BD1.grow Za (Ak w1 (.cells (vO (x k) ah ch) 52)));obtain⟨cc2,BH,If⟩:=BW2.row;have QL:=Ab If;clear If;go_wp2_with (at_builtin;go_must(refine wpList_append_own_at _ rfl _ _ 23 rfl (w.1.size+1) 52 i0 _ 7 96 underlying23 Fq GH C7 Fk rfl Zb _ (m) (AN ((m)*7) cc2) rfl BH ⟨w1.1.size,0,none⟩ 1 1 [.s (x k).k,.s (x k).n,.i (x k).t,.i (x k).b,.s (x k).m,.bool (x k).e,.l ah (x k).hn ch] rfl rfl (DI w1 _ 52) kG Zl Za Zd ?_;intro v2 u2 Ht Bm Hs Uz;clear Hs Uz));have zu2:=Bm.size;simp only[Av]at zu2;have BD2':=Ab (BW2.app (cap':=ch) QL Ht Bm (λq hq=>(BH.lt q hq).1) ((Ag1.out).alloc Za _) Za Zd);have B2':Below (w.1.size+1) (w.alloc (.cells (vH c adc capc) 54)) u2:=(b1.alloc Za _).trans ((BB Bm).below (λq hq e=>by have:=(BH.lt q e).1;omega) Zd);clear BH Ht Bm;go_roundw;case rel=>exact⟨k+1,_,_,Za,by go_num,by rw[STEP.out,E.out],B2',by rw[STEP.out,E.out];exact BD2'⟩
  case measure=>simp[intOf];omega):=h
def Af6 (h:P:=by intro t X K p' hb CO Dj AW hg hK;obtain⟨k,ah,ch,hk,e8,Df⟩:=hg 8 Za;obtain⟨z,e9,hz,By⟩:=hg 9 Za;have rf:=By.free;have rl:=By.lt;obtain⟨r0,r1,r2,r3,r4,r5,r6⟩:=iE By;have R6:=(((((((By.set (o:=0) Za (.s (B.os k).k)).set (o:=1) Za (.s (B.os k).n)).set (o:=2) Za (.i (B.os k).t)).set (o:=3) Za (.i (B.os k).b)).set (o:=4) Za (.s (B.os k).m)).set (o:=5) Za (.bool (B.os k).e)).set (o:=6) Za (.l ah (B.os k).hn ch));have F6:=hb.far7 (z:=z) hz (.s (B.os k).k) (.s (B.os k).n) (.i (B.os k).t) (.i (B.os k).b) (.s (B.os k).m) (.bool (B.os k).e) (.l ah (B.os k).hn ch);have D6:=hr.far7 AW (z:=z) hz (.s (B.os k).k) (.s (B.os k).n) (.i (B.os k).t) (.i (B.os k).b) (.s (B.os k).m) (.bool (B.os k).e) (.l ah (B.os k).hn ch);have h:=hK _ _ ⟨t,z,k,ah,ch,p',rfl,e9,hz,hk,Df,⟨R6.lt,R6.free,λj hj=>by rw[R6.cell j hj];rcases(YP j Za)with rfl|rfl|rfl|rfl|rfl|rfl|rfl<;>rfl⟩,F6,CO,Dj,D6⟩;have HK:=Ab h;clear hK hg By h R6 F6 D6;refine Au rfl rfl ?_;go_simp;simpa[e8,e9]using HK.out):=h
def Agd (h:P:=by go_wp2_with fail;refine(K9 o.hn o.hs A C v.hold _ 0 _ Za (E9 Ig.out Zg)).mono ?_;rintro e w2 ⟨rfl,Dq⟩;rw[HH.out];have Hk:=Ab (xJ (e:=false) (B:=B) (v:=v) (o:=o) Dq z1 HB.out b0 p5 Y2 r0 r1 r2 r3 r4 r5 r6 r7 r8 Zcm);clear b0 b1 b2 b3 b4 p0 p1 p2 p3 p4 p5 r0 r1 r2 r3 r4 r5 r6 r7 r8 Y1 Y2 z1 zA zB VK VL VG VQ VI VO;generalize Mz:w1.1.size=n1 at*;clear Mz Dq HB Ig;have z:=Hk.z;have sz:=Hk.sz;have b0:=Hk.b0;have p5:=Hk.p5;obtain⟨r0,r1,r2,r3,r4,r5,r6,r7,r8⟩:=Sc Hk.r;obtain⟨o0,o1,o2,o3,o4,o5,o6⟩:=iE Hk.ob;obtain⟨q0,q1,q2,q3,q4,q5,q6,q7,q8⟩:=Sc Hk.ch;exact Aim):=h
def bs (h:P:=by have h:=hK _ X p' A9 A9 rfl (AB.refl _ _) AW (AA ⟨Zb,hJ⟩);exact JC):=h
def nd (h:P:=by rintro r Z ⟨k,rfl,_,hv,hf,Me⟩;have h:=HK (.i k) Z (p'+1) Za A9 ⟨k,by have:=hv Zb;omega,rfl⟩ hf Me;simpa[AX,AY]using h):=h
def Kx (h:P:=by go_ret;exact⟨A7 HE.symm,AC _ _⟩):=h
def Agq (h:P:=by
  rw[hK];clear hv hK;go_enter func26,ntmps26;go_wp2_with (go_at_call 45;go_must(refine(FA B a1 a2 a3 c1 c2 c3 _ lo hi Zd BG (Tf.below (E1 _ _ _ _) CD)).mono ?_;rw[hc];rintro e w1 ⟨rfl,AU⟩;obtain⟨A0,A1,A2,A3,F3⟩:=KT AU;have p0:=A0 0;have p1:=A0 1;have p2:=A0 2;have p3:=A0 3;have p4:=A0 4;have q0:=A1 0;have q1:=A1 1;have q2:=A1 2;have m0:=A2 0;have r0:=A3 0;have r1:=A3 1;have r2:=A3 2;have f0:=F3 0;have f1:=F3 1;have f2:=F3 2;simp only[Ah,Ai,Af]at p0 p1 p2 p3 p4 q0 q1 q2 m0 r0 r1 r2;clear A0 A1 A2 A3 F3));obtain⟨Y,hY,fY,y0,y1,y2⟩:=L9 (v0:=.i 1) (v1:=.l none 0 0) (v2:=.i 0) r0 r1 r2;have z1:w.1.size+4<=w1.1.size:=by have:=AU.size;simp at this;omega
  have bY:=((E1 _ _ _ _).trans (AU.mono Zd)).trans (fY.below (B:=w.1.size) (λq hq e=>by omega) Za);rw[hY];exact bodyPost_ret (v:=.agg #[.i 1,.l none 0 0,.i 0]) Zcf rfl ⟨rfl,bY⟩):=h
def Aa2 (h:P:=by
  rw[hg]at r1;clear hg;go_wp2_with (at_lookup;go_must(refine wpList_lookup_own_int _ rfl _ _ 157 rfl 89 3 .i64 CE underlying157 underlying3 (LG _) (w.1.size+1) n D rfl hD2 _ _ rfl Qr ?_;intro c2 DR Sn;have jw:c2=(i':Int):=N6 (DR.symm.trans Qw);subst jw;clear DR Sn));go_roundw;case rel=>exact⟨i'+1,Za,by go_num,Ds,tu,λj hj=>(by
   rcases AD j i' with h3|h3;.exact HA j h3
   .have:j=i':=Za;subst this;exact HN)⟩
  case measure=>simp[intOf];omega):=h
def Afh (h:P:=by go_wp2;refine bodyPost_ret (v:=.tuple #[.agg #[.i 0,.bool false,.s ⟨#[]⟩,.s ⟨#[]⟩,.i 0,.i 0,.s ⟨#[]⟩,.bool false,.l none 0 0],.i 7]) Zm rfl ⟨rfl,by repeat(first|with_reducible exact HB.out|with_reducible refine Bs ?_ Zh _|with_reducible refine Cz ?_ Zh _|with_reducible refine CB ?_)⟩):=h
def Afx (h:P:=by
  by_cases hm:1000000<=B.v;.exact Xg9
  .have KP:B8 B v=0:=by unfold B8;rw[if_pos YC.out,if_neg hm]
   have PZ:=Ab KP;have cD:B.v<1000000:=Za;clear KP hm;go_wp2;refine bodyPost_ret (v:=.tuple #[.agg #[.i (B.v+1),.bool ((o.hn:Int)==0),.s o.k,.s o.n,.i (B.v+1),.i o.b,.s o.m,.bool true,.l A o.hn C],.i 0]) Zm rfl ⟨by repeat(first|with_reducible exact HB.out|with_reducible refine Bs ?_ Zh _|with_reducible refine Cz ?_ Zh _|with_reducible refine CB ?_),Az ⟨PZ.out,A,C,?_,?_⟩⟩;.rw[HV.out]
   .rw[HN.out];exact E9 Ig.out (by repeat(first|with_reducible exact AB.refl _ _|with_reducible refine JN ?_ (by(show _<=_\/_<_);simp only[];omega) _|with_reducible refine AB.trans ?_ (Aj Do)))):=h
def Ae7 (h:P:=by
  by_cases hm:1000000<=B.v;.exact Xg9
  .have KP:B8 B v=0:=by unfold B8;rw[if_pos YC.out,if_neg hm]
   have PZ:=Ab KP;have cD:B.v<1000000:=Za;clear KP hm;go_wp2;refine bodyPost_ret (v:=.tuple #[.agg #[.i (B.v+1),.bool false,.s o.k,.s o.n,.i (B.v+1),.i o.b,.s v.m,.bool false,.l A o.hn C],.i 0]) Zm rfl ⟨by repeat(first|with_reducible exact HB.out|with_reducible refine Bs ?_ Zh _|with_reducible refine Cz ?_ Zh _|with_reducible refine CB ?_),Az ⟨PZ.out,A,C,?_,?_⟩⟩;.rw[HV.out]
   .rw[HN.out];exact E9 Ig.out (by repeat(first|with_reducible exact AB.refl _ _|with_reducible refine JN ?_ (by(show _<=_\/_<_);simp only[];omega) _|with_reducible refine AB.trans ?_ (Aj Do)))):=h
def xI (h:P:=by refine Au rfl rfl ?_;clear hK hg;go_simp;simpa[AX,AY,hw]using h):=h
def qu (h:P:=by rintro r Z ⟨k,rfl,_,hv,hf,Me⟩;have h:=HK (.i k) Z (p'+1) Za Za ⟨k,by have:=hv Zb;omega,rfl⟩ hf Me;simpa[AX,AY]using h):=h
def Sd (h:P:=by refine Au rfl rfl ?_;clear hK hg;go_simp;simpa[AX,AY]using h):=h
def Agj (h:P:=by
  refine AP Zc Zc ?_;repeat(go_big_quiet_step((go_at_call 88;go_must(exact B4 (hK _)))))
  refine wpQuiet_nil ?_;rintro w4 ⟨u,hu⟩;have hw4:Below w3.1.size w3 w4:=hu▸u.prop;clear hu u CF;have Pc:=ig.trans (hw4.mono Za);clear x0 x1 x2 x3 x4 x5 x6 x7 x8 xr3 xv3 y5 y1 hK;go_wp2;go_ret;exact⟨A7 HE.symm,(AC _ _).trans (Pc.mono Za)⟩):=h
def Ae8 (h:P:=by have AY:t 0=_:=hg 0 (AR rfl);obtain⟨q,r⟩:=Yx.a.row;have k0:=r.cell 0 Za;have k1:=r.cell 1 Za;have k2:=r.cell 2 Za;have k3:=r.cell 3 Za;have k4:=r.cell 4 Za;have kf:=r.free;have kz:=r.lt;have h:=hK undef (((((X.setCell ⟨A,0,none⟩ (.i O.v)).setCell ⟨A,1,none⟩ (.i O.f)).setCell ⟨A,2,none⟩ (.l a1 O.on c1)).setCell ⟨A,3,none⟩ (.l a2 O.hn c2)).setCell ⟨A,4,none⟩ (.l a3 O.tn c3)) (gZ r) ⟨Yx.a.set5 (λ_ h=>by cases h) (λ_ h=>by cases h) (λ_ h=>by cases h) (λ_ h=>by cases h) (λ_ h=>by cases h),Yx.d.fr (fr5 (.i O.v) (.i O.f) (.l a1 O.on c1) (.l a2 O.hn c2) (.l a3 O.tn c3)) (λe=>by have e':D=A:=e;omega)⟩ (fr5 (.i O.v) (.i O.f) (.l a1 O.on c1) (.l a2 O.hn c2) (.l a3 O.tn c3));exact Sd):=h
def Ae0 (h:P:=by
  obtain⟨c,r,DR⟩:=h.row;rcases r.2 with⟨rfl,rfl⟩|⟨g,cap,cur,rfl,h1,_⟩;.exact⟨none,0,0,rfl,⟨λh0=>absurd h0 (Bc _),λh0=>absurd h0 (Bc _),λi hi=>absurd hi (Ae _),λi hi=>absurd hi (Ae _),⟨λi hi=>absurd hi (Ae _),λi j hi=>absurd hi (Ae _)⟩⟩,λq hq=>by
    rcases hq with⟨h0,_⟩|⟨i,hi,_⟩;.exact absurd h0 (Bc _)
    .exact absurd hi (Ae _)⟩
  .refine⟨_,cap,g,rfl,⟨λ_=>rfl,λ_=>⟨c,JK r,DR⟩,h.hold,λi hi h0=>(h.hlt i hi h0).2,⟨λi hi h0 e=>h.ne i hi h0 (by rw[e];rfl),h.inj⟩⟩,λq hq=>?_⟩;rcases hq with⟨h0,rfl⟩|⟨i,hi,h0,rfl⟩;.exact h1
   .exact(h.hlt i hi h0).1):=h
def Afo (h:P:=by have q:=(hb.cell (p:=⟨T,3,none⟩) H.lt H.ne).trans (H.row.cell 3 Zb);exact aS):=h
def Ae4 (h:P:=by have q:=(hb.cell (p:=⟨T,2,none⟩) H.lt H.ne).trans (H.row.cell 2 Zb);exact aS):=h
def Aib (h:P:=by
  obtain⟨k,b,off,hk,ea,e7⟩:=hg 7 (AR rfl);obtain⟨b',off',ah,ch,ea',_,C6,hc,Df⟩:=ho k hk;rw[ea]at ea';obtain⟨rfl,rfl⟩:b=b'/\off=off':=by simpa using ea'
  have CF:¬b=R:=OJ hr.ns hc.c0;have cc:∀j,X.cell? ⟨b,j,none⟩=W.cell? ⟨b,j,none⟩:=λj=>hb.cell (p:=⟨b,j,none⟩) Zcp CF;have q0:=(cc _).trans hc.c0;have q1:=(cc _).trans hc.c1;have q2:=(cc _).trans hc.c2;have q3:=(cc _).trans hc.c3;have q4:=(cc _).trans hc.c4;have q5:=(cc _).trans hc.c5;have q6:=(cc _).trans hc.c6;have h:=hK (.agg (vO (B.os k) ah ch)) X p' A9 Za ⟨k,ah,ch,hk,rfl,Df⟩ (AB.refl _ _) AW;refine Au rfl rfl ?_;clear hK hg hc cc;go_simp;simpa[AX,e7]using h):=h
def Af1 (h:P:=by
  intro i hi t X K p' hb CO Dj AW hg hK;rcases(Va i Za)with rfl|rfl|rfl|rfl|rfl|rfl|rfl|rfl|rfl|rfl;.exact Di
  .have AY:t 0=_:=hg 0 (AR rfl);have cS:=(hb.cell (p:=⟨S,2,none⟩) hS hSR).trans lE;exact MJ
  .exact Di
  .exact Di
  .have AY:t 3=_:=hg 3 (AR rfl);have cS:=(hb.cell (p:=⟨S,2,none⟩) hS hSR).trans lE;exact MJ
  .have AY:t 4=_:=hg 4 (AR rfl);exact MJ
  .have AY:t 2=_:=hg 2 (AR rfl);have Ff:t 5=_:=hg 5 (AR rfl);refine Au rfl rfl ?_;have HK:=Ab hK;have HR:=Ab AW;clear hK hg AW;go_simp;go_at_call 16;refine(Bt R ad nn cap p' (B.on:Nat) X HR Za Za Za).mono ?_;rintro r Y ⟨v,rfl,_,hv,hf,Me⟩;have h:=HK (.i v) Y (p'+1) Za A9 ⟨v,by have:=hv Za;omega,rfl⟩ hf Me;simpa[AX,AY,Ff]using h
  .have AY:t 1=_:=hg 1 (AR rfl);obtain⟨k,hk,e6⟩:=hg 6 (AR rfl);obtain⟨b,off,ah,ch,ea,_,_,_,_⟩:=ho k hk;rw[ea]at AY;have h:=hK (.pointer (some ⟨b,off+k*7,none⟩)) X p' A9 Za ⟨k,b,off,hk,ea,rfl⟩ (AB.refl _ _) AW;refine Au rfl rfl ?_;clear hK hg;go_simp;simpa[AX,AY,e6]using h
  .exact Aib
  .have h:=hK (.p (X.1.size) 0) (X.alloc (.cells #[.s ⟨#[]⟩,.s ⟨#[]⟩,.i 0,.i 0,.s ⟨#[]⟩,.bool false,.l none 0 0] 52)) p' A9 Za ⟨X.1.size,rfl,hb.size,AE.new (l:=[.s ⟨#[]⟩,.s ⟨#[]⟩,.i 0,.i 0,.s ⟨#[]⟩,.bool false,.l none 0 0]) (t:=52) Dx⟩ (Aj Do) (AW.below Do);exact JC):=h
def Acz (h:P:=by
  refine wpQuiet_nil ?_;rintro w2 ⟨u,hu⟩;have Dq:Below wr.1.size wr w2:=hu▸u.prop;clear hu u;go_wp2;go_roundw;case rel=>exact⟨m+2,Za,AA Za,by go_num,λj hj=>(by
   rcases AD j (m+1)with h3|h3;.exact HA j h3
   .have:j=m+1:=Za;subst this;exact HN),hb.trans (Dq.mono hb.size)⟩
  case measure=>simp[intOf];omega):=h
def Ac5 (h:P:=by
  by_cases e1:i=k
  .by_cases e2:j=k;.rw[e1,e2]
   .subst e1;rw[Bf,BC _ _ e2]at e;exact absurd e.symm (hd j Za h1 h0)
  .by_cases e2:j=k;.subst e2;rw[Bf,BC _ _ e1]at e;exact absurd e (hd i Za h0 h1)
   .rw[BC _ _ e1,BC _ _ e2]at e;exact h.inj i j Za Za h0 h1 e):=h
def WQ (h:P:=by
  rintro j ⟨o',ho',e,he,hb,rfl⟩;rw[ho]at ho';obtain rfl:o=o':=by simpa using ho'
  exact Bg e he hb):=h
def Ags (h:P:=by have q0:=(hb.cell (p:=⟨Kb,0,none⟩) Td.lt vq).trans (Td.cell 0 Zb);have q1:=(hb.cell (p:=⟨Kb,1,none⟩) Td.lt vq).trans (Td.cell 1 Zb);have q2:=(hb.cell (p:=⟨Kb,2,none⟩) Td.lt vq).trans (Td.cell 2 Zb);have q3:=(hb.cell (p:=⟨Kb,3,none⟩) Td.lt vq).trans (Td.cell 3 Zb);have q4:=(hb.cell (p:=⟨Kb,4,none⟩) Td.lt vq).trans (Td.cell 4 Zb);have q5:=(hb.cell (p:=⟨Kb,5,none⟩) Td.lt vq).trans (Td.cell 5 Zb);have q6:=(hb.cell (p:=⟨Kb,6,none⟩) Td.lt vq).trans (Td.cell 6 Zb);simp only[oc,AV,Ac,Ad]at q0 q1 q2 q3 q4 q5 q6;exact Di):=h
def Aco (h:P:=by exact⟨(r.cell _ Za).trans (congrArg some a0),(r.cell _ Za).trans (congrArg some a1),(r.cell _ Za).trans (congrArg some a2),(r.cell _ Za).trans (congrArg some a3),(r.cell _ Za).trans (congrArg some a4),(r.cell _ Za).trans (congrArg some a5),(r.cell _ Za).trans (congrArg some a6)⟩):=h
def ZG (h:P:=by simp only[oc,cc,AV,Ac,Ad,BU]at q;exact MJ):=h
def Abi (h:P:=by
  by_cases e:i=k
  .subst e;rw[Bf];rcases hw with hw|hw;.rw[hw];exact hv h0
   .rw[hw];intro q;cases q;exact Bc _ (hl h0).2
  .rw[BC _ _ e];rcases hw with hw|hw;.rw[hw];exact h.ne i Za h0
   .rw[hw];intro q;have h2:=(h.hlt i Za h0).2;injection q with q;omega):=h
def Abm (h:P:=by
  go_wp2;go_roundw;case rel=>exact⟨k+1,Za,by go_num,λj hj=>(by
   rcases AD j k with h3|h3;.exact HA j h3
   .have:j=k:=Za;subst this;exact HN),Pc⟩
  case measure=>simp[intOf];omega):=h
def Agg (h:P:=by
  have HN:=Ab (show agH m x n h k=true by unfold agH;rw[Tk.out];simp[uu]);have hd:((i':Int)==(k:Int))=false:=Zd;go_wp2_with (at_lookup;go_must(refine wpList_lookup_own_int _ rfl _ _ 157 rfl 89 3 .i64 CE underlying157 underlying3 (LG _) (w.1.size+1) n D rfl hD2 _ _ rfl Qr ?_;intro c2 DR Sn;have jw:c2=(i':Int):=N6 (DR.symm.trans Qw);subst jw;clear DR Sn));go_roundw;case rel=>exact⟨k+1,Za,by go_num,Ds,tu,λj hj=>(by
   rcases AD j k with h3|h3;.exact HA j h3
   .have:j=k:=Za;subst this;exact HN)⟩
  case measure=>simp[intOf];omega):=h
def Aey (h:P:=by
  have CF:Nonempty (GW w1):=⟨⟨_,Ap _ _⟩⟩;refine AP Zc Zc ?_;repeat(go_big_quiet_step((go_at_call 98;go_must(exact B4 (Sl (x k) (h j).ob ah ah' ch ch' _ lo hi (im _) hxh hjh (Un _) (lS _))))))
  refine wpQuiet_nil ?_;rintro w2 ⟨u,hu⟩;have Dq:Below w1.1.size w1 w2:=hu▸u.prop;clear hu u CF;have Ds:=Fp.trans (Dq.mono Za);clear CW im Un lS z3 x0 x1 x2 x3 x4 x5 x6 y1 y2 y3 y4 y5 y6 y7 y8 p0 p1 p2 p3 p4 p5 p6 o1 o3;go_wp2;go_ret;exact⟨A7 HE.symm,(AC _ _).trans (Ds.mono Za)⟩):=h
def Z8 (h:P:=by
  rcases AD i (n+1)with h|h;.exact h
  .rw[DK Za]at ho;cases ho):=h
def UY (h:P:=by have h:=hK _ X rfl Dx;refine Au rfl rfl ?_;go_simp;exact h):=h
def sj (h:P:=by refine Au rfl rfl ?_;have HK:=Ab hK;have HR:=Ab AW;clear hK hg AW;go_simp;go_at_call 16;refine(Bt R ad nn cap p' 2 X HR Za Zb Zb).mono ?_;exact nd):=h
def Aft (h:P:=by
  refine AP Zc Zc ?_;repeat(go_big_quiet_step(first|(go_at_call 86;go_must(exact B4 (Oc (x k) now _ Zcw ah ch _ lo hi Zbm My Zbo)))|(go_at_call 42;go_must(exact B4 (UG (x (k-1)) (x k) _ _ _ _ _ _ _)))))
  refine wpQuiet_nil ?_;rintro w2 ⟨u,hu⟩;have Dq:Below W1.1.size W1 w2:=hu▸u.prop;clear hu u;go_wp2;go_ret;exact⟨A7 HE.symm,Kr.trans (Dq.mono Za)⟩):=h
def Agh (h:P:=by have AY:t 0=_:=hg 0 (AR rfl);obtain⟨y,g3,hy⟩:=hg 3 (AR rfl);have HY:=Ab (hY.pick hb hr.ns);refine Au rfl rfl ?_;have HK:=Ab hK;have HR:=Ab AW;clear hK hg AW;go_simp;go_at_call 30;refine(X7 Y y b1 b2 b3 k1 k2 k3 X HY hy).mono ?_;rintro r Z ⟨Nt,cd,V,f1,f2,f3,h1,h2,h3,ve,rfl,hV⟩;have h:=HK (.agg #[.i cd,.i V.v,.i V.f,.l f1 V.on h1,.l f2 V.hn h2,.l f3 V.tn h3,.i ve]) Z p' A9 Za ⟨cd,V,f1,f2,f3,h1,h2,h3,ve,rfl,hV⟩ (Aj Nt) (HR.below Nt);simpa[AX,AY,g3]using h):=h
def Af0 (h:P:=by obtain⟨a0,a1,a2,a3,a4,a5,a6⟩:=DR i Za;exact⟨(if_pos Za).trans a0,(if_pos Za).trans a1,(if_pos Za).trans a2,(if_pos Za).trans a3,(if_pos Za).trans a4,(if_pos Za).trans a5,(if_pos Za).trans a6⟩):=h
def Afr (h:P:=by
  intro i j v X Y LA hj7 P4 Yx h hf;rcases(jh j Za)with rfl|rfl|rfl|rfl|rfl|rfl|rfl|rfl;.exact h
  .exact h
  .exact h
  .exact h
  .exact h
  .exact h
  .rcases(jh i Za)with rfl|rfl|rfl|rfl|rfl|rfl|rfl|rfl<;>first|exact absurd rfl P4|exact h.fr hf (λe=>False.elim e)|exact h.fr hf (λe=>by have e':_=_:=e;omega)
  .rcases(jh i Za)with rfl|rfl|rfl|rfl|rfl|rfl|rfl|rfl<;>first|exact absurd rfl P4|exact h.fr hf (λe=>False.elim e)|exact h.fr hf (λe=>by have e':_=_:=e;omega)):=h
def Aga (h:P:=by have AY:t 1=_:=hg 1 (AR rfl);have q0:=(hb.cell (p:=⟨Bb,0,none⟩) Uw Ol).trans (By.cell 0 Zb);have q1:=(hb.cell (p:=⟨Bb,1,none⟩) Uw Ol).trans (By.cell 1 Zb);have q2:=(hb.cell (p:=⟨Bb,2,none⟩) Uw Ol).trans (By.cell 2 Zb);have q3:=(hb.cell (p:=⟨Bb,3,none⟩) Uw Ol).trans (By.cell 3 Zb);have q4:=(hb.cell (p:=⟨Bb,4,none⟩) Uw Ol).trans (By.cell 4 Zb);simp only[AV,Ac,Ad]at q0 q1 q2 q3 q4;exact MJ):=h
def iH (h:P:=by go_enter func89,ntmps89;go_wp2;go_ret;exact⟨A7 HE.symm,((AC _ _).alloc Ze _)⟩):=h
def aD (h:P:=by have AY:t 1=_:=hg 1 (AR rfl);have Ff:t 2=_:=hg 2 (AR rfl);have hlt:=H.ho;exact ci):=h
def Yk (h:P:=by refine Au rfl rfl ?_;go_simp;simpa[AX,AY,OQ]using HK.out):=h
def Vd (h:P:=by have:l.getD i true=false:=hu;simpa[Array.getD,hs,LA]using this):=h
def LN (h:P:=by simpa[AX,AY,Ff]using h):=h
def Aa7 (h:P:=by
  by_cases e:i=k;.subst e;rw[Bf,Bf];exact hs.frP F (λh0=>⟨hv h0,(hl h0).2⟩)
  .rw[BC _ _ e,BC _ _ e];exact(h.hold i Za).frP F (λh0=>⟨h.ne i Za h0,(h.hlt i Za h0).2⟩)):=h
def Aez (h:P:=by go_wp2;refine bodyPost_ret (v:=.tuple #[.agg #[.i 0,.bool false,.s ⟨#[]⟩,.s ⟨#[]⟩,.i 0,.i 0,.s ⟨#[]⟩,.bool false,.l none 0 0],.i 3]) Zbl rfl ⟨rfl,by repeat(first|with_reducible exact HB.out|with_reducible refine Bs ?_ Zh _|with_reducible refine Cz ?_ Zh _|with_reducible refine CB ?_)⟩):=h
def Afu (h:P:=by go_wp2;refine bodyPost_ret (v:=.tuple #[.agg #[.i 0,.bool false,.s ⟨#[]⟩,.s ⟨#[]⟩,.i 0,.i 0,.s ⟨#[]⟩,.bool false,.l none 0 0],.i 5]) Zbl rfl ⟨rfl,by repeat(first|with_reducible exact HB.out|with_reducible refine Bs ?_ Zh _|with_reducible refine Cz ?_ Zh _|with_reducible refine CB ?_)⟩):=h
def Afb (h:P:=by
  refine AP Zc Zc ?_;repeat(go_big_quiet_step((go_at_call 89;go_must(exact B4 (hSU _)))))
  refine wpQuiet_nil ?_;rintro w2 ⟨u,hu⟩;have Dq:Below w1.1.size w1 w2:=hu▸u.prop;clear hu u CF;have Ds:=Fp.trans (Dq.mono Za);clear u1 u2 u3 v1 hSU xx0 xx1 xx2 xx3 xx4 xx5 xx6 y2 y3 y4 y5 y6 y7 y8;go_wp2;go_ret;exact⟨A7 HE.symm,(AC _ _).trans (Ds.mono Za)⟩):=h
def Ac2 (h:P:=by
  rintro i j hi ⟨o,ho,e,he,hb,rfl⟩;have h1:=Bz.1 Fj i (BF.2 Za);rw[ho]at h1;have h2:=BO.1 h1 e he;rw[hb]at h2;have:e.on<i:=by simpa using h2
  omega):=h
def Qh (h:P:=by go_wp2;go_ret;exact⟨A7 HE.symm,rfl⟩):=h
def iL (h:P:=by have q:=(hb.cell (p:=⟨T,2,none⟩) H.lt HA.nT).trans (H.row.cell 2 Zb);exact aS):=h
def Abu (h:P:=by
  by_cases e:i=k;.subst e;rw[Bf];exact⟨(hl h0).1,Aa (hl h0).2 hg.size⟩
  .rw[BC _ _ e];exact⟨(h.hlt i Za h0).1,Aa (h.hlt i Za h0).2 hg.size⟩):=h
def Aaw (h:P:=by obtain⟨g,e,y1,y2,y3⟩:=h;exact⟨g,e,y1,Aa y2 hF.size,λk hk=>by obtain⟨i,y4,y5⟩:=y3 k hk;exact⟨i,(hF.cell (p:=⟨g,k,none⟩) y2 (λq=>by have:=On g q;omega)).trans y4,y5⟩⟩):=h
def Ach (h:P:=by obtain⟨g,e,y1,y2,y3⟩:=h;exact⟨g,e,y1,Aa y2 hF.size,λk hk=>by obtain⟨i,y4,y5⟩:=y3 k hk;exact⟨i,(hF.cell (p:=⟨g,k,none⟩) y2 (λq=>by have q:g=R:=q;omega)).trans y4,y5⟩⟩):=h
def iK (h:P:=by have AY:t 1=_:=hg 1 (AR rfl);have Ff:t 2=_:=hg 2 (AR rfl);have hlt:=H.hh;exact ci):=h
def Agf (h:P:=by go_wp2_with fail;refine(K9 o.hn o.hs A C v.hold _ 0 _ Za (E9 Ig.out Zg)).mono ?_;rintro e w2 ⟨rfl,rfl⟩;rw[HH.out];exact Afh):=h
def Af9 (h:P:=by intro t X K p' hb CO Dj AW hg hK;obtain⟨V,f1,f2,f3,h1,h2,h3,g6,hV⟩:=hg 6 Za Za;have bT:=By.fr hb (λe=>Ol e);have rf:=bT.free;have rl:=bT.lt;obtain⟨r0,r1,r2,r3,r4⟩:=JQ bT;have h:=hK _ _ ⟨t,V,f1,f2,f3,h1,h2,h3,p',X,rfl,rfl,hV,hb,CO,Za,AW⟩;have HK:=Ab h;clear hK hg h bT;refine Au rfl rfl ?_;go_simp;simpa[g6]using HK.out):=h
def Agl (h:P:=by have:=(D8 (w:=w.alloc (.cells #[.int .i64 B.v,.int .i64 B.f,.slice a1 B.on c1,.slice a2 B.hn c2,.slice a3 B.tn c3] 36)) (c:=#[.string m.k,.string m.pre,.int .i64 m.d,.slice a m.n c,.int .i64 m.s]) (t:=25) Dx).below (Ak _ (.cells #[.string ByteArray.empty,.string ByteArray.empty,.int .i64 0,.slice none 0 0,.int .i64 0] 25));simpa using this):=h
def Abk (h:P:=by refine Au rfl rfl ?_;have HK:=Ab hK;have HR:=Ab AW;clear hK hg AW;go_simp;go_at_call 16;refine(Bt R ad nn cap p' 3 X HR Za Zb Zb).mono ?_;exact qu):=h
def jU (h:P:=by rintro a X ⟨t,i,pz,X0,rfl,rfl,z2,z3,z4,z5,z6⟩;exact hQ t i pz X0 z2 z3 z4 z5 z6):=h
def Af8 (h:P:=by obtain⟨g,eq3,y1,y2,y3⟩:=hg 3 (AR rfl);obtain⟨k,hk,sO⟩:=hg 5 (AR rfl);obtain⟨s,y4,y5⟩:=y3 k hk;have h:=hK (.pointer (some ⟨g,k,none⟩)) X p' A9 Za ⟨g,k,s,rfl,⟨y1,y2⟩,y4,trivial,y5⟩ (AB.refl _ _) AW;refine Au rfl rfl ?_;clear hK hg;go_simp;rw[if_pos Za,BK];go_simp;simpa[AX,eq3,sO]using h):=h
def jL (h:P:=by go_ret;exact⟨A7 HE.symm,(AC _ _).trans (AU.mono Ze)⟩):=h
def Afy (h:P:=by have:=D8 (w:=(w.alloc (.cells #[.int .i64 B.v,.int .i64 B.f,.slice a1 B.on c1,.slice a2 B.hn c2,.slice a3 B.tn c3] 36)).alloc (.cells #[.string m.k,.string m.pre,.int .i64 m.d,.slice a m.n c,.int .i64 m.s] 25)) (c:=#[.string ByteArray.empty,.string ByteArray.empty,.int .i64 0,.slice none 0 0,.int .i64 0]) (t:=25) Dx;simpa using this):=h
def Agn (h:P:=by have AY:t 2=_:=hg 2 (AR rfl);obtain⟨k,hk,g4⟩:=hg 4 (AR rfl);have v0:=hY.v.n0;have v1:=hY.v.n1;have v2:=hY.v.n2;have hw:=AQ (Y.f+(k:Int)) ⟨Za,Za⟩;have h:=hK (.i (Y.f+(k:Int))) X p' A9 Za ⟨_,rfl⟩ (AB.refl _ _) AW;refine Au rfl rfl ?_;clear hK hg;go_simp;simpa[AX,AY,g4,hw]using h):=h
def aT (h:P:=by go_ret;exact⟨A7 HE.symm,IK.trans (BT.mono Za)⟩):=h
def vL (h:P:=by have h:=hK _ X rfl Dx;refine Au rfl rfl ?_;go_simp;simpa[AX,AY]using h):=h
def Yq (h:P:=by have h:=hK _ X rfl Dx;refine Au rfl rfl ?_;clear hK hg;go_simp;exact LN):=h
def fO (h:P:=by have HK:=Ab h;clear hK hg h;refine Au rfl rfl ?_;go_simp;simpa[AY,eqm]using HK.out):=h
def yl (h:P:=by go_wp2_with fail;refine(K9 o.hn o.hs A C v.hold _ 0 _ Za (E9 Ig.out Zg)).mono ?_;exact Aia):=h
def ya (h:P:=by go_wp2_with fail;refine(K9 o.hn o.hs A C v.hold _ 0 _ Za (E9 Ig.out Zg)).mono ?_;exact Aif):=h
def vJ (h:P:=by
  rcases YI.out with hs|⟨Ow,hs⟩;.rw[hs]at p3;clear hs;exact Xg5
  .rw[hs]at p3;have iz:(o.t !=0)=true:=by rw[<-hs];simpa using Ow
   clear hs Ow;exact Xg5):=h
def Pm (h:P:=by
  by_cases e:j=i;.subst e;exact ki
  .rw[kp j e];exact h):=h
def W_ (h:P:=by
  refine AP Zc Zc ?_;repeat(go_big_quiet_step((go_at_call 88;go_must(exact B4 (hK _)))))
  refine wpQuiet_nil ?_;rintro w4 ⟨u,hu⟩;have hw4:Below w3.1.size w3 w4:=hu▸u.prop;clear hu u CF;have Pc:=ig.trans (hw4.mono Za);clear x0 x1 x2 x3 x4 x5 x6 x7 x8 xr3 xv3 y5 y1 hK;exact Abm):=h
def xl (h:P:=by have h:=hK (.p (X.1.size) 0) (X.alloc (.cells #[.i 0,.i 0,.i 0,.l none 0 0,.l none 0 0,.l none 0 0,.i 0] 73)) p' A9 Za ⟨X.1.size,rfl,hb.size,AE.new (l:=[.i 0,.i 0,.i 0,.l none 0 0,.l none 0 0,.l none 0 0,.i 0]) (t:=73) Dx,Ah8 X⟩ (Aj Do) (AW.below Do);exact JC):=h
def wM (h:P:=by have hw:=AQ (x.v+1) ⟨Za,Za⟩;have h:=hK (.i (x.v+1)) X p' A9 Za ⟨_,rfl,Za,Za⟩ (AB.refl _ _) AW;exact xI):=h
def vG (h:P:=by refine wpQuiet_nil ?_;rintro w2 ⟨u,hu⟩;have Dq:Below wr.1.size wr w2:=hu▸u.prop;clear hu u;go_wp2;go_ret;exact⟨A7 HE.symm,hb.trans (Dq.mono hb.size)⟩):=h
def XQ (h:P:=by have AY:t 4=_:=hg 4 (AR rfl);have Ff:t 5=_:=hg 5 (AR rfl);have hlt:=H.ho;exact ci):=h
def yL (h:P:=by clear bH;go_wp2_with (go_at_call 80;refine(Dm _ _ (by first|exact fk.z0|exact fk.z1)).mono ?_;rintro e w9 ⟨rfl,rfl⟩;first|rw[nk]|rw[nn]);exact Ae9):=h
def bg (h:P:=by rintro r Y ⟨v,rfl,_,hv,hf,Me⟩;have h:=HK (.i v) Y (p'+1) Za A9 ⟨v,by have:=hv Za;omega,rfl⟩ hf Me;simpa[AX,AY]using h):=h
def dE (h:P:=by have h:=hK _ X rfl Dx;refine CN rfl rfl ?_;clear hK hg;go_simp;simpa[AX]using h):=h
def wE (h:P:=by have h:=hK (.s s) X p' A9 Za ⟨s,y3,rfl⟩ (AB.refl _ _) AW;refine Au rfl rfl ?_;clear hK hg;go_simp;simpa[AX,g4]using h):=h
def db (h:P:=by obtain⟨k,hk,h2⟩:=KC.1 h1;simp only[As,beq_iff_eq]at h2;exact di j ⟨o,ho,o.after[k],KD hk,h2.1,h2.2⟩):=h
def dO (h:P:=by clear hk;go_enter func66,ntmps66;go_wp2;go_ret;exact⟨A7 (HE.trans HF).symm,AC _ _⟩):=h
def MO (h:P:=by have AY:t 6=_:=hg 6 (AR rfl);exact MJ):=h
def yv (h:P:=by
  intro i v X Z p' hi h hF Lb hR hX;iterate 6 (rcases i with _|i;.first|exact h|(obtain⟨cd,V,f1,f2,f3,h1,h2,h3,ve,e,hV⟩:=h;exact⟨cd,V,f1,f2,f3,h1,h2,h3,ve,e,hV.pick hF Lb.ns⟩)|(obtain⟨z,e,z1,z2,z3⟩:=h;exact⟨z,e,z1,z2.fr2 hF Za,z3.fr hF z2.lt Za⟩))
  omega):=h
def wY (h:P:=by have h:=hK _ X p' A9 Za rfl (AB.refl _ _) AW;refine Au rfl rfl ?_;clear hK hg;go_simp;simpa[AX,AY,Ff,hk]using h):=h
def C_ (h:P:=by
  have HVE:=Ab iy;clear iy;go_wp2;go_quiet(fail);go_wp2;go_roundw;case rel=>exact⟨j+1,Za,by go_num,λm' hm'=>(by
   rcases AD m' j with h3|h3;.exact HV m' h3
   .have:m'=j:=Za;subst this;exact HVE),Ry HQ⟩
  case measure=>simp[intOf];omega):=h
def Pn (h:P:=by have h:=hK _ X rfl Dx;exact xI):=h
def PI (h:P:=by go_wp2;go_ret;exact⟨A7 HE.symm,hb⟩):=h
def Xy (h:P:=by go_enter func42,ntmps42;go_wp2;go_ret;exact⟨Kj HE.symm,HB _ _⟩):=h
def fF (h:P:=by exact Uc x1 x2 rfl rfl (U5 HQ ⟨x3,a1,a2,_,c1,c2,c3,rfl,x4 HL.a8.bin,oS.grow x3.size⟩)):=h
def yn (h:P:=by
  go_roundw;case rel=>exact⟨k+1,Za,by go_num,(λj hj=>by
   rcases AD j k with h|h;.exact HN j h
   .obtain rfl:j=k:=Za;rw[HE.out];exact hpe:∀j,j<k+1->p (Ii L j)=false),hb.trans (BT.mono hb.size)⟩
  case measure=>simp[intOf];omega):=h
def xT (h:P:=by have HK:=Ab h;clear hK hg h;refine Au rfl rfl ?_;go_simp;simpa[AY,pL]using HK.out):=h
def cP (h:P:=by refine Au rfl rfl ?_;clear hK hg;go_simp;simpa[AX,kq]using h):=h
def wg (h:P:=by
  have hr:Region.ready md ops l=[]:=by
   rw[List.eq_nil_iff_forall_not_mem];intro i hi;have h1:=(DS.1 hi);have h2:i<ops.size:=by simpa using h1.1
   have h3:=h1.2;rw[Xa Za i h2]at h3;simp at h3
  exact⟨hr,LB l a w hI hr⟩):=h
def fJ (h:P:=by
  by_cases e:p=i;.subst e;exact ku j (di j hj)
  .rw[kp p e]at h;exact ku j (Li p j hj h)):=h
def xX (h:P:=by go_ret;exact⟨A7 HE.symm,((AC _ _).trans ((AC _ _).mono Ze)).trans (AU.mono Zd)⟩):=h
def TT (h:P:=by show(w.cell? ⟨b,off+j,none⟩).getD _=_;rw[ej,f0];rfl):=h
def TN (h:P:=by show(w.cell? ⟨b,off+j,none⟩).getD _=_;rw[ej,f1];rfl):=h
def Tv (h:P:=by show(w.cell? ⟨b,off+j,none⟩).getD _=_;rw[ej,f2];rfl):=h
def TP (h:P:=by show(w.cell? ⟨b,off+j,none⟩).getD _=_;rw[ej,f3];rfl):=h
def TO (h:P:=by show(w.cell? ⟨b,off+j,none⟩).getD _=_;rw[ej,f4];rfl):=h
def M_ (h:P:=by
  rw[hnv]at n1;have n0:X.cell? ⟨Bn,0,none⟩=some (.i 0):=by simp[World.cell?,n1]
  have n2:X.cell? ⟨Bn,1,none⟩=some (.slice ad nl cap):=by simp[World.cell?,n1]
  have n3:X.cell? ⟨Bn,2,none⟩=some (.i nv):=by simp[World.cell?,n1]
  exact Ah6):=h
def cO (h:P:=by
  intro i v X Z p' hi h hF Lb hR hX;iterate 12 (rcases i with _|i;.first|exact h)
  omega):=h
def eX (h:P:=by have AY:t 4=_:=hg 4 (AR rfl);have Ff:t 5=_:=hg 5 (AR rfl);have hlt:=H.hh;exact ci):=h
def g_ (h:P:=by go_enter func18,ntmps18;go_wp2_with (go_at_call 38;go_must(refine(iX n x an cn _ lo hi Zd hl (HC.below (HB _ _) CD)).mono ?_;rw[hA];rintro e w1 ⟨rfl,AU⟩));go_ret;exact⟨rfl,(HB _ _).trans (AU.mono Zd)⟩):=h
def I' (h:P:=by go_enter func102,ntmps102;go_wp2_with (first|(go_at_call 107;refine(Iw _ _ tz).mono ?_;rintro e w1 ⟨rfl,rfl⟩;rw[hn])|(go_at_call 46;refine(Gd _ _ _ _).mono ?_;rintro e w1 ⟨rfl,rfl⟩;first|rw[h1]|rw[h2]|skip));exact Kx):=h
def Ui (h:P:=by rcases(VU j Za)with rfl|rfl|rfl|rfl|rfl<;>rfl):=h
def v_ (h:P:=by rw[hg]at f1;have y1:=Aq f1 Zj;have HE:=Ab (show DQ now floor m x n h=false by unfold DQ;rw[Bd (p:=Iv now floor h) B7 (by unfold Iv;rw[ur.out];simp[IY,Kt,hg])];simp);clear Kt hg f1;exact Agj):=h
def vr (h:P:=by go_enter func102,ntmps102;go_wp2_with (first|(go_at_call 107;refine(Iw _ _ tz).mono ?_;rintro e w1 ⟨rfl,rfl⟩;rw[hn])|(go_at_call 46;refine(Gd _ _ _ _).mono ?_;rintro e w1 ⟨rfl,rfl⟩;first|rw[h1]|skip));exact Kx):=h
def et (h:P:=by refine Au rfl rfl ?_;clear hK hg;go_simp;rw[if_pos Za,BK];go_simp;simpa[AX,g1,g3]using h):=h
def xg (h:P:=by simp only[oc,cc,AV,Ac,Ad,BU]at q;have h:=hK _ _ ⟨t,s,p',X,rfl,rfl,y1,hb,CO,Za,AW⟩;have HK:=Ab h;clear hK hg h;refine Au rfl rfl ?_;go_simp;simpa[AY,Y8]using HK.out):=h
def XU (h:P:=by
  by_cases e:j=i;.subst e;exact ki
  .exact ku j (al j Za)):=h
def wu (h:P:=by exact⟨Tp _ _ _,FQ _ _ _ 1,FQ _ _ _ 2,FQ _ _ _ 3,FQ _ _ _ 4,FQ _ _ _ 5,FQ _ _ _ 6⟩):=h
def yb (h:P:=by have AY:t 2=_:=hg 2 (AR rfl);have Ff:t 3=_:=hg 3 (AR rfl);have h:=hK _ X rfl Dx;refine Au rfl rfl ?_;clear hK hg;simp only[AY,Ff];go_simp;rw[if_pos Za,BK];go_simp;exact LN):=h
def gi (h:P:=by have h:=hK _ X rfl Dx;refine Au rfl rfl ?_;clear hK hg;go_simp;simpa[AX,AY,Ff,hw]using h):=h
def Y_ (h:P:=by
  go_wp2;go_roundw;case rel=>exact⟨k+1,Za,by go_num,Ds,BH,λj hj=>(by
   rcases AD j k with h3|h3;.exact HA j h3
   .have:j=k:=Za;subst this;exact HN)⟩
  case measure=>simp[intOf];omega):=h
def wh (h:P:=by have:=World.frozen?_alloc_mark w.drew ((AN (n*z+m*z) (Cp c (n*z) d)).toArray++Builtin.zeroCells zv.cells (grownCap w (n+m) cap e-(n+m))) e 0 0 j;rw[show w.drew.1.size=w.1.size from rfl]at this;simpa using this):=h
def zp (h:P:=by have:=(D8 (w:=w.alloc (.cells (vM m a c) 25)) (c:=#[.i cd,.l an n cn,.i fv]) (t:=28) Dx).below (Ak _ (.cells #[.s ByteArray.empty,.s ByteArray.empty,.i 0,.l none 0 0,.i 0] 25));simpa using this):=h
def xw (h:P:=by exact⟨(Kq 0 Zb).trans c0,(Kq 1 Zb).trans c1,(Kq 2 Zb).trans c2,(Kq 3 Zb).trans c3,(Kq 4 Zb).trans c4,(Kq 5 Zb).trans c5,(Kq 6 Zb).trans c6⟩):=h
def XL (h:P:=by have c0:=(hb.cell (p:=⟨R,0,none⟩) hR).trans hc;exact L7):=h
def xc (h:P:=by
  go_wp2;go_roundw;case rel=>exact⟨k+1,Za,by go_num,Ds,λj hj=>(by
   rcases AD j k with h3|h3;.exact HA j h3
   .have:j=k:=Za;subst this;exact HN)⟩
  case measure=>simp[intOf];omega):=h
def xL (h:P:=by have h:=hK _ X rfl Dx;refine CN rfl rfl ?_;clear hK hg;go_simp;simpa[AX,AY]using h):=h
def Af3 (h:P:=by
  have h':∀i,∃x,i<n->p i x:=λi=>by
   by_cases hi:i<n;.obtain⟨x,hx⟩:=h i hi;exact⟨x,λ_=>hx⟩
   .exact⟨d,λe=>absurd e hi⟩
  obtain⟨f,hf⟩:=Classical.skolem.1 h';exact⟨f,hf⟩):=h
def TG (h:P:=by have h:=hK _ X rfl Yx (AB.refl _ _);exact JC):=h
def yk (h:P:=by have:=D8 (w:=(w.alloc (.cells (vM m a c) 25)).alloc (.cells #[.i cd,.l an n cn,.i fv] 28)) (c:=#[.s ByteArray.empty,.s ByteArray.empty,.i 0,.l none 0 0,.i 0]) (t:=25) Dx;simpa using this):=h
def b_ (h:P:=by obtain⟨b',off',ah',ch',g1,g2,g3,g4,g5⟩:=hL.isIn k hk;exact⟨b',off',ah',ch',g1,Za,g3,g4,λk2 cC=>by obtain⟨b3,off3,h1,h2,h3,h4⟩:=g5 k2 cC;exact⟨b3,off3,h1,Za,h3,h4⟩⟩):=h
def E' (h:P:=by have YN:E8 (w1.alloc (.cells #[.int .i64 cd,.slice adn n cn,.int .i64 fv] 28)) w1.1.size #[.int .i64 cd,.slice adn n cn,.int .i64 fv]:=D8 Dx;exact⟨YN.cell 0,YN.cell 1,YN.cell 2⟩):=h
def c_ (h:P:=by rintro i j hi ⟨o,ho,e,he,_,rfl⟩;have h1:=Bz.1 Fj i (BF.2 Za);rw[ho]at h1;have h2:=BO.1 h1 e he;have:=of_decide_eq_true h2;omega):=h
def eK (h:P:=by rintro r Y ⟨rfl,Nn⟩;have h:=HK _ Y rfl Nn;simpa[AX,AY]using h):=h
def yY (h:P:=by go_ret;exact⟨A7 HE.symm,(hb.alloc hb.size _).trans (BT.mono dx)⟩):=h
def I_ (h:P:=by simp only[AV,Ac,Ad]at q1;exact MJ):=h
def O' (h:P:=by refine Au rfl rfl ?_;have HK:=Ab hK;have HR:=Ab AW;clear hK hg AW;go_simp;go_at_call 16;refine(Bt R ad nn cap p' 4 X HR Za Zb Zb).mono ?_;exact nd):=h
def vt (h:P:=by refine Au rfl rfl ?_;have HK:=Ab hK;have HR:=Ab AW;clear hK hg AW;go_simp;go_at_call 16;refine(Bt R ad nn cap p' 6 X HR Za Zb Zb).mono ?_;exact qu):=h
def zU (h:P:=by
  rcases AD i n with h|h;.exact h
  .rw[DK Za]at ho;cases ho):=h
def i_ (h:P:=by intro t V f1 f2 f3 h1 h2 h3 pz X0 X hX hV hf CO Dj AW;subst hX;go_wp2_with fail;go_meet;case rel=>exact⟨V,f1,f2,f3,h1,h2,h3,pz,Za,Za,(I5.pick Ic hf AW).put HR hV⟩):=h
def xu (h:P:=by clear iy;go_wp2;go_quiet(fail);go_wp2;go_ret;exact⟨A7 HE.symm,Ds.trans (Below.mono (by obtain⟨q',hq'⟩:=Ry (nq:=nq) HQ;rw[hq'];exact BY _ _) Ds.size)⟩):=h
def fI (h:P:=by refine Au rfl rfl ?_;clear hK hg;go_simp;simpa[AY]using h):=h
def wy (h:P:=by rintro i j hi ⟨o,ho,e,he,_,rfl⟩;have h1:=Bz.1 Fj i (BF.2 Za);rw[ho]at h1;exact of_decide_eq_true (BO.1 h1 e he)):=h
def R' (h:P:=by
  intro i v X Z p' hi h hF Lb hR hX;iterate 7 (rcases i with _|i;.first|exact h|(obtain⟨V,f1,f2,f3,h1,h2,h3,e,hV⟩:=h;exact⟨V,f1,f2,f3,h1,h2,h3,e,hV.pick hF Lb.ns⟩))
  omega):=h
def u_ (h:P:=by have hw:=AQ (x.f+1) ⟨Za,Za⟩;have h:=hK (.i (x.f+1)) X p' A9 Za ⟨_,rfl,Za,Za⟩ (AB.refl _ _) AW;exact xI):=h
def B_ (h:P:=by obtain⟨g,k,i,e,y1,y2,y3,y4⟩:=h;exact⟨g,k,i,e,⟨y1.1,Aa y1.2 hF.size⟩,(hF.cell (p:=⟨g,k,none⟩) y1.2 (λq=>by have:=On g q;omega)).trans y2,y3,y4⟩):=h
def H' (h:P:=by obtain⟨g,k,i,e,y1,y2,y3,y4⟩:=h;exact⟨g,k,i,e,⟨y1.1,Aa y1.2 hF.size⟩,(hF.cell (p:=⟨g,k,none⟩) y1.2 (λq=>by have q:g=R:=q;omega)).trans y2,y3,y4⟩):=h
def aa (h:P:=by split at h<;>first|exact AA h|exact Az (AA h)|exact Az (Az h)|exact h.elim):=h
def cx (h:P:=by
  iterate 8 refine Fr.setCell ?_ XP XP _
  exact Fr.refl _ _ _):=h
def ga (h:P:=by have q:=(hb.cell (p:=⟨T,1,none⟩) H.lt H.ne).trans (H.row.cell 1 Zb);exact aS):=h
def Tr (h:P:=by have AY:t 0=_:=hg 0 (AR rfl);exact Afo):=h
def TJ (h:P:=by have AY:t 0=_:=hg 0 (AR rfl);exact Ae4):=h
def cz (h:P:=by go_wp2;go_ret;exact⟨A7 HE.symm,(AC _ _).trans (Ds.mono Za)⟩):=h
def wj (h:P:=by unfold Mc at this⊢;simp only[As]at this⊢;have q:=Lo this.2.2.2.2;exact⟨this.1,this.2.1,this.2.2.1,this.2.2.2.1,H7 ⟨q.1,Za⟩⟩):=h
def zK (h:P:=by obtain⟨b,off,e1,e2,e3,e4⟩:=h i hi';exact⟨b,off,e1,e2,e3,e4.below hb Za⟩):=h
def dt (h:P:=by refine Au rfl rfl ?_;clear hK hg;simp only[AY];go_simp;simpa[AX,AY]using h):=h
def XW (h:P:=by obtain⟨q0,q1,q2,q3,q4⟩:=JQ hJ.z;exact bs):=h
def RH (h:P:=by rintro l a X ⟨hs,_⟩;rw[hs,hn]):=h
def H_ (h:P:=by clear h2;go_enter func117,ntmps117;go_wp2_with (go_at_call 118;refine(Ri _ _).mono ?_;rintro e w1 ⟨rfl,rfl⟩);go_ret;exact⟨Kj HE.symm,rfl⟩):=h
def RJ (h:P:=by subst e;rw[Cf];exact hv):=h
def af (h:P:=by exact r0.congr (λj hj=>by rcases(VU j Za)with rfl|rfl|rfl|rfl|rfl<;>rfl)):=h
def O_ (h:P:=by have AY:t 2=_:=hg 2 (AR rfl);have Ff:t 4=_:=hg 4 (AR rfl);have h:=hK _ X rfl Yx (AB.refl _ _);refine Au rfl rfl ?_;clear hK hg;go_simp;exact LN):=h
def yP (h:P:=by have AL:=JF Fj Zcn hr;exact G7 a X (h6 (AL n Za)).2):=h
def yM (h:P:=by rintro a X ⟨t,s,pz,X0,rfl,rfl,z2,z3,z4,z5,z6⟩;exact hQ t s pz X0 z2 z3 z4 z5 z6):=h
def J_ (h:P:=by simp only[oc,cc,AV,Ac,Ad,BU]at q;have h:=hK _ _ ⟨t,b,p',X,rfl,rfl,trivial,hb,CO,Za,AW⟩;exact xT):=h
def cv (h:P:=by rintro a X ⟨t,b,pz,X0,rfl,rfl,z2,z3,z4,z5,z6⟩;exact hQ t b pz X0 z2 z3 z4 z5 z6):=h
def dL (h:P:=by show(w.cell? ⟨b,off+j,none⟩).getD _=_;rw[ej,f5];rfl):=h
def dQ (h:P:=by show(w.cell? ⟨b,off+j,none⟩).getD _=_;rw[ej,f6];rfl):=h
def yi (h:P:=by
  intro t X p' hb CO Dj AW hF;rcases hF with⟨_,y,f1,f2,f3,e1,e2,e3,By,hB,hc⟩|⟨h,_⟩;.exact hQ t X y f1 f2 f3 e1 e2 e3 hb By hB hc
  .omega):=h
def D' (h:P:=by
  have Ad1:j=ox x fl:=by unfold ox at hjc⊢;omega
  have rr:=Rr.below hb Za;obtain⟨t0,t1,t2,t3,t4⟩:=JQ rr;have tf:=rr.free;exact Aip):=h
def ye (h:P:=by
  intro i v X Y hi h hF hR hX;iterate 10 (rcases i with _|i;.first|exact h|(obtain⟨z,e,a1,a2⟩:=h;exact⟨z,e,a1,a2.fr2 hF Za⟩))
  omega):=h
def xa (h:P:=by obtain⟨g,k,s,kq,y1,y2,y3,y4⟩:=hg 6 (AR rfl);have h:=hK (.s s) X p' A9 Za ⟨s,rfl,y4⟩ (AB.refl _ _) AW;exact cP):=h
def F_ (h:P:=by have:k=n:=Za;subst this;have HR:=Ab (And.intro CG Fe);clear hc hf CG Fe;go_wp2;go_ret;exact⟨D,rfl,HR.out.1,HR.out.2,hb⟩):=h
def m_ (h:P:=by exact Cd _ _ _ ((AI _ _ _ _ Ze).trans ((AI _ _ _ _ Ze).trans r2))):=h
def A_ (h:P:=by go_wp2;go_quiet((go_at_call 80;go_must(exact Jf (Dm _ _ Dg))));go_wp2;go_ret;exact⟨A7 HE.symm,Ry HQ⟩):=h
def p_ (h:P:=by
  have hR3:=HI.R3;have hRl:=HI.bR.lt;rcases e with e|⟨e1,e2⟩;.omega
  .have h1:=(HI.gR (HI.nonil e1).1).2;have h2:=(HI.nonil e1).2;omega):=h
def U_ (h:P:=by rintro a X ⟨t,z,cd,V,f1,f2,f3,h1,h2,h3,ve,pz,rfl,z1,z2,z3,z4,z5,z6,z7,z8⟩;exact hQ t z cd V f1 f2 f3 h1 h2 h3 ve pz X z1 z2 z3 z4 z5 z6 z7 z8):=h
def j_ (h:P:=by go_enter func68,ntmps68;go_wp2_with (go_at_call 46;refine(Gd _ _ _ _).mono ?_;rintro e w1 ⟨rfl,rfl⟩;first|rw[h1]|skip);exact Kx):=h
def dr (h:P:=by rintro e w' ⟨rfl,h⟩;exact⟨h,_,B,a1,a2,a3,c1,c2,c3,_,rfl,hb.below h⟩):=h
def Yg (h:P:=by have AY:t 10=_:=hg 10 (AR rfl);exact MJ):=h
def yd (h:P:=by rintro r w' ⟨ad',cap',g,A,C,hb',rfl,h1,_,hb⟩;exact⟨ad',_,cap',rfl,bF (h1.isIn (lo:=0) (λ_ _=>Ar _)) A9,hb⟩):=h
def xe (h:P:=by
  go_roundw;case rel=>exact⟨i+1,Ze,Za,Ab ⟨_,_,_,_,_,hy.more Za A9⟩⟩
  case measure=>simp[intOf];omega):=h
def Z' (h:P:=by refine⟨r.lt,r.free,λq hq=>(r.cell q hq).trans (congrArg some ?_)⟩;rw[hh];rcases(VU q Za)with rfl|rfl|rfl|rfl|rfl<;>rfl):=h
def wz (h:P:=by go_enter func48,ntmps48;go_wp2_with (go_at_call 75;refine(S6 _ _ _ hs hp).mono ?_;rintro e w1 ⟨rfl,rfl⟩);exact Kx):=h
def xr (h:P:=by have e5:b=hb i:=Za;exact⟨b,off,e1,by rw[e5];exact Gc _ (Az ⟨i,hi,LU,rfl⟩),by rw[e5];exact h.hlt i hi LU,e4⟩):=h
def Y' (h:P:=by have:=HQ g (AA ⟨by
   rcases Bi nr with e6|e6;.exact absurd (by rw[e6];rfl) h
   .exact e6,rfl⟩);omega):=h
def wT (h:P:=by rintro ac X ⟨t,v3,X0,rfl,rfl,h1,h2⟩;exact hQ t v3 X0 ⟨h1,h2⟩):=h
def dZ (h:P:=by have h:=hK _ X rfl Yx (AB.refl _ _);exact Sd):=h
def dW (h:P:=by obtain⟨q0,q1,q2,q3,q4⟩:=JQ hJ.b;exact bs):=h
def vv (h:P:=by exact(h.c.d.h.fr F (λq hq=>far q (Az (AA hq)) (λe=>h.c.d.d12 P.g1 b1 (e▸hq)))).isIn (λ_ _=>Ar _)):=h
def r_ (h:P:=by refine Au rfl rfl ?_;clear hK hg;go_simp;rw[if_pos Za,BK];go_simp;simpa[AX,pL,VX]using h):=h
def xd (h:P:=by exact(h.c.d.t.fr F (λq hq=>far q (Az (Az hq)) (λe=>h.c.d.d13 P.g1 b1 (e▸hq)))).isIn (λ_=>Ar _)):=h
def dF (h:P:=by go_wp2;go_ret;exact⟨rfl,AC _ _⟩):=h
def eM (h:P:=by go_wp2;go_ret;exact⟨A7 HE.symm,IK⟩):=h
def cL (h:P:=by exact⟨λh=>Za,λ_=>⟨_,rfl⟩⟩):=h
def ze (h:P:=by refine Au rfl rfl ?_;clear hK hg;go_simp;rw[if_pos Za,BK];go_simp;simpa[AX,eq2,eq4]using h):=h
def V_ (h:P:=by have AY:t 0=_:=hg 0 (AR rfl);have q:=(hb.cell (p:=⟨T,4,none⟩) H.lt HA.nT).trans (H.row.cell 4 Zb);exact aS):=h
def K_ (h:P:=by rintro r w' ⟨ad',cap',n',y',rfl,e,h1,hb⟩;have h:=bF h1 A9;rw[e]at h;exact⟨ad',_,cap',rfl,h,hb⟩):=h
def wl (h:P:=by rintro a X ⟨t,V,f1,f2,f3,h1,h2,h3,pz,X0,rfl,z1,z2,z3,z4,z5,z6⟩;exact hQ t V f1 f2 f3 h1 h2 h3 pz X0 X z1 z2 z3 z4 z5 z6):=h
def d9 (h:P:=by rw[decide_eq_false h1]at I4;simpa using I4):=h
def Rk (h:P:=by simpa[AX,Act.put]using h):=h
def M' (h:P:=by have AY:t 7=_:=hg 7 (AR rfl);have q:=(hb.cell (p:=⟨g1,o*7+2,none⟩) H.l1 H.n1).trans (H.c1 2 Zb);exact ZG):=h
def G' (h:P:=by have AY:t 7=_:=hg 7 (AR rfl);have q:=(hb.cell (p:=⟨g2,h*9,none⟩) H.l2 H.n2).trans (H.c2 0 Zb);exact ZG):=h
def xh (h:P:=by obtain⟨b,off,ah,ch,e1,e2,e3,e4,e5⟩:=h i hi';exact⟨b,off,ah,ch,e1,e2,e3,e4.below hb Za,e5.below hb hB⟩):=h
def f_ (h:P:=by
  by_cases e:j=i;.exact RJ
  .rw[kp j e]at h;rw[BP e];exact st _ _ _ _ _ j1 (gg j j1 h) hY AW hr.lt hb.size):=h
def G_ (h:P:=by rintro l ac X ⟨hs,_,h6,_⟩ hr;have AL:=JF Fj Zcn hr;exact G7 ac X (h6 (AL n Za)).2):=h
def U' (h:P:=by
  go_roundw;case rel=>exact⟨k+1,Za,by go_num,by rw[STEP.out];exact O2,B2⟩
  case measure=>simp[intOf];omega):=h
def zh (h:P:=by rintro r w' ⟨ad',cap',g,K,rfl,e,h1,h2,_,_,hb⟩;have h:=MG.row h1 h2;rw[e]at h;exact⟨ad',_,cap',rfl,h,hb⟩):=h
def dN (h:P:=by exact⟨this,by unfold xO;rw[this];rfl⟩):=h
def yc (h:P:=by
  have h1:=Li c a wca hc;have h2:=Li c b wcb hc;rcases h with h|h;.rw[h]at h1;cases h1
  .rw[h]at h2;cases h2):=h
def X_ (h:P:=by rintro a X ⟨t,z,k,ah,ch,pz,rfl,a1,a2,a3,a4,a5,a6,a7,a8,a9⟩;exact hQ t z k ah ch pz X a1 a2 a3 a4 a5 a6 a7 a8 a9):=h
def vK (h:P:=by rw[DK (by simpa using h)]at ho;cases ho):=h
def wm (h:P:=by
  go_roundw;case rel=>exact⟨k+1,Za,by go_num,Sj HF hh,by trivial⟩
  case measure=>simp[intOf];omega):=h
def P' (h:P:=by
  by_cases e:i=k;.subst e;rw[Bf,Bf];exact wu
  .rw[BC _ _ e,BC _ _ e];exact Af0):=h
def h_ (h:P:=by unfold seen;rw[show j+1-k=(j-k)+1 by omega,List.range_succ,GV];simp[show k+(j-k)=j by omega,hs]):=h
def P_ (h:P:=by exact bodyPost_ret (v:=.agg #[.i 1,.l none 0 0,.i 0]) (by simp[results,results35,go_sem]) rfl ⟨rfl,C6 _ _ _⟩):=h
def zj (h:P:=by go_enter func16,ntmps16;go_wp2;go_ret;exact⟨0,rfl,λ_=>rfl,λh=>by omega,aY HR Dx⟩):=h
def dp (h:P:=by have zz:=HS.ans.row.lt;have zb:=HB.size;go_wp2;exact Ae9):=h
def E_ (h:P:=by
  rcases hk with⟨h0,rfl⟩|⟨i,hi,h0,rfl⟩;.obtain⟨c,r,_⟩:=h.row h0;exact r.lt
  .exact h.hlt i hi h0):=h
def dM (h:P:=by intro i v X Z p' hi h hF Lb hR hX;exact h):=h
def k_ (h:P:=by
  rcases e with⟨e,_⟩|⟨i,e,_⟩;.exact absurd e (Bc 0)
  .exact absurd e (Ae i)):=h
def dY (h:P:=by rintro a X ⟨t,rfl,hb⟩;exact hQ t X hb):=h
def vz (h:P:=by rintro a X ⟨t,k,ad',cap',g',pz,X0,rfl,rfl,z2,z3,z4,z5,z6⟩;exact hQ t k ad' cap' g' pz X0 z2 z3 z4 z5 z6):=h
def xn (h:P:=by refine Au rfl rfl ?_;clear hK hg;go_simp;rw[if_pos Za,BK];go_simp;exact LN):=h
def eD (h:P:=by have AY:t 3=_:=hg 3 (AR rfl);exact Ae4):=h
def dX (h:P:=by have AY:t 3=_:=hg 3 (AR rfl);exact Afo):=h
def xj (h:P:=by obtain⟨b9,off9,h9,_,_,hc9⟩:=(HC X hb).uin.wt k hk;cases h9;obtain⟨d90,d91,d92⟩:=hc9;exact L7):=h
def zd (h:P:=by simp only[oc,AV,Ac,Ad,BU]at q0 q1 q2 q3 q4 q5 q6;exact MJ):=h
def dJ (h:P:=by exact⟨b,off,e1,Za,Za,e4⟩):=h
def xq (h:P:=by rintro e w' ⟨rfl,h⟩;exact⟨h,_,B,a1,a2,a3,c1,c2,c3,_,rfl,hb.below h,λh=>absurd h Zb⟩):=h
def zo (h:P:=by obtain rfl:m=0:=Za;go_wp2_with fail;go_meet;case rel=>exact⟨nw,cd,fv,an,0,cn,x,LC,Pe.i.w⟩):=h
def zt (h:P:=by go_ret;exact⟨_,rfl,Az ⟨k,B7,rfl,by rw[HE.out];exact hpe,HN⟩,hb.trans (BT.mono hb.size)⟩):=h
def xz (h:P:=by
  go_roundw;case rel=>exact⟨k+1,_,_,_,Za,by go_num,B2,BD2⟩
  case measure=>simp[intOf];omega):=h
def yh (h:P:=by go_wp2;exact⟨⟨k+1,Za,by go_num,rfl,by simp at zX;omega,HQ2,YS⟩,by simp[intOf];omega⟩):=h
def d' (h:P:=by have h:=hK _ _ ⟨t,k,ad',cap',g',p',X,rfl,rfl,⟨FW,hg',z1,z2⟩,hb,CO,Za,AW⟩;exact fO):=h
def yj (h:P:=by have l0:=(hb.cell (p:=⟨O,6,none⟩) hO).trans h6;have zl:=Aa hO hb.size;exact L7):=h
def wU (h:P:=by show(w.cell? ⟨b,off+j,none⟩).getD _=_;rw[h];rfl):=h
def N_ (h:P:=by cases hj;exact⟨has_put_same hD (ao _ _ hk hn) _,atKey_put_same hD (ao _ _ hk hn) _ _⟩):=h
def e_ (h:P:=by split at e<;>first|(subst e;exact Lb.ns)|(subst e;exact gk.an)|exact absurd rfl kC|exact e.elim):=h
def yu (h:P:=by unfold Oper.wp;simp[execOp,ho,resolve,invoke,builtin,hs,hx,CZ,Result.andThen];exact hK _ _ h):=h
def t_ (h:P:=by obtain⟨V,f1,f2,f3,h1,h2,h3,u,e,hV⟩:=h;exact⟨V,f1,f2,f3,h1,h2,h3,u,e,hV.pick hF Lb.ns⟩):=h
def xy (h:P:=by have:=List.count_le_length (a:=true) (l:=(l.setIfInBounds i true).toList);simpa[hs]using this):=h
def wa (h:P:=by have HK:=Ab h;clear hK hg h;refine Au rfl rfl ?_;go_simp;simpa[AY,gJ]using HK.out):=h
def a_ (h:P:=by have AY:t 2=_:=hg 2 (AR rfl);have c0:=(hb.cell (p:=⟨b,0,none⟩) FV).trans Nr;exact L7):=h
def wH (h:P:=by exact⟨f.k,f.n,f.t,f.h,(h.strs hh e5 f.s).2,f.v⟩):=h
def wk (h:P:=by
  have l1:=h.c.lo q hq;have l2:=h.tb q hq;rcases e with e|e|e;.omega
  .exact hn e.2
  .omega):=h
def wJ (h:P:=by exact⟨b,off,rfl,e2,e3,by rw[Fl,ej];exact f0⟩):=h
def zF (h:P:=by exact⟨b,off,rfl,e2,e3,by rw[Fl,ej];exact f1⟩):=h
def yU (h:P:=by exact⟨b,off,rfl,e2,e3,by rw[Fl,ej];exact f2⟩):=h
def ce (h:P:=by exact⟨b,off,rfl,e2,e3,by rw[Fl,ej];exact f3⟩):=h
def zG (h:P:=by exact⟨b,off,rfl,e2,e3,by rw[Fl,ej];exact f4⟩):=h
def vu (h:P:=by
  iterate 7 refine Fr.setCell ?_ XP XP _
  exact Fr.refl _ _ _):=h
def wR (h:P:=by exact⟨by rw[N8,h1];simp[CV,hk],rfl⟩):=h
def xp (h:P:=by obtain⟨off,u,hu⟩:=hq;obtain⟨o,ho,hc⟩:=hr q e;rw[iD hu ho]at hc;cases hc):=h
def Q' (h:P:=by exact Cd _ _ _ ((AI _ _ _ _ Ze).trans r1)):=h
def xC (h:P:=by
  rcases e with e|e;.omega
  .have:=HA.lt e.1;omega):=h
def wd (h:P:=by have q:=(hb.cell (p:=⟨T,0,none⟩) H.lt HA.nT).trans (H.row.cell 0 Zb);exact aS):=h
def Z_ (h:P:=by rcases(show j=0\/j=1\/j=2\/j=3\/j=4 by simp at hj;omega)with rfl|rfl|rfl|rfl|rfl<;>rfl):=h
def yq (h:P:=by have q:=(hb.cell (p:=⟨T,0,none⟩) H.lt H.ne).trans (H.row.cell 0 Zb);exact aS):=h
def yw (h:P:=by have q1:=(hb.cell (p:=⟨zn,1,none⟩) ux Aad).trans (hnr.cell 1 Zb);exact I_):=h
def T' (h:P:=by go_wp2;go_ret;exact⟨A7 HE.symm,(IK.alloc IK.size _).alloc Zd _⟩):=h
def L_ (h:P:=by have q1:=(hb.cell (p:=⟨zn,1,none⟩) ux hnR).trans (hnr.cell 1 Zb);exact I_):=h
def zi (h:P:=by obtain rfl:k=L.length:=Za;go_wp2;go_ret;exact⟨_,rfl,AA ⟨rfl,HN⟩,hb⟩):=h
def ji (k:Nat):Code->Code
 |.region n o b=>cond (Nat.beq n k) (.region n o b) .skip
 |.seq a c=>match ji k a with|.region n o b=>.region n o b|_=>ji k c
 |.cond _ a c=>match ji k a with|.region n o b=>.region n o b|_=>ji k c
 |.block _ a=>ji k a
 |.loop a=>ji k a
 |.scope a=>ji k a
 |.rangeFunc _ _ a c=>match ji k a with|.region n o b=>.region n o b|_=>ji k c
 |_=>.skip
def rg (f:Func) (k:Nat):Code:=match f.body with|some c=>ji k c|none=>.skip
end Go.Proofs.YtdknjmgdgnmhjaaGreat
