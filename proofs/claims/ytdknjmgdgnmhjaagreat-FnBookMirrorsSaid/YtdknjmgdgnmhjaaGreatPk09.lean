import Derived.Test.YtdknjmgdgnmhjaaGreatPk07
import Derived.Test.YtdknjmgdgnmhjaaGreatPk06
set_option maxRecDepth 100000
set_option maxHeartbeats 4000000
namespace Go.Proofs.YtdknjmgdgnmhjaaGreat
open Go.RowKit Go.Maps Go.Proofs.Tryz
variable {h:Nat→Ch}{a b:ByteArray}{n:Nat}
def Jj (h:Nat->Ch)(a b:ByteArray):Nat->Option Nat
 |0=>none
 |n+1=>if(h n).ob.k=a/\(h n).ob.n=b then some n else Jj h a b n
theorem NR (h2:(h n).ob.k=a/\(h n).ob.n=b):Jj h a b (n+1)=some n:=by unfold Jj;exact if_pos h2
theorem NP (h2:¬((h n).ob.k=a/\(h n).ob.n=b)):Jj h a b (n+1)=Jj h a b n:=by simp only[Jj];exact if_neg h2
theorem Jy{h:Nat->Ch}{a b:ByteArray}:∀{n i:Nat},Jj h a b n=some i->i<n/\(h i).ob.k=a/\(h i).ob.n=b
 |0,_,e=>by cases e
 |n+1,i,e=>by
  by_cases h2:(h n).ob.k=a/\(h n).ob.n=b;.rw[NR h2]at e;cases e;exact⟨BE _,h2⟩
  .rw[NP h2]at e;have:=Jy e;exact⟨Za,this.2⟩
def Uh (h:Nat->Ch)(n:Nat)(D:DataW Unit):Prop:=∀a b:ByteArray,a.size<=maxLen->b.size<=maxLen->(∀i,Jj h a b n=some i->Maps.has D (kl a b)=true/\D.atKey (kl a b) (.lit (.i 0))=.lit (.i i))/\(Jj h a b n=none->Maps.has D (kl a b)=false)
theorem Ps (h:Nat->Ch):Uh h 0 (.map []):=λa b _ _=>⟨λi h=>Ns,λ_=>rfl⟩
theorem TU{D:DataW Unit}(ht:Uh h n D)(hD:IsMap D)(hk:(h n).ob.k.size<=maxLen)(hn:(h n).ob.n.size<=maxLen):Uh h (n+1) (D.put (kl (h n).ob.k (h n).ob.n) (.lit (.i n))):=λa b ha hb=>by
 by_cases hh:(h n).ob.k=a/\(h n).ob.n=b
 .obtain⟨rfl,rfl⟩:=hh;refine⟨λj hj=>?_,λhj=>?_⟩
  .rw[NR ⟨rfl,rfl⟩]at hj;exact N_
  .rw[NR ⟨rfl,rfl⟩]at hj;cases hj
 .have CF:kl a b≠kl (h n).ob.k (h n).ob.n:=xo ha hb hk hn (λe=>hh ⟨e.1.symm,e.2.symm⟩);rw[has_put_other CF,atKey_put_other CF,NP hh];exact ht a b ha hb
theorem XR (n:Nat)(h:Nat->Ch)(ad:OA)(cap:Nat)(w:World)(lo hi:Nat)(CD:hi<=w.1.size)(hl:(n:Int)<=1099511627776)(hf:∀i,i<n->Cu (h i).ob)(hc:Dv w lo hi ad n h):Calls prog 97 #[.l ad n cap] w λe w'=>∃D:DataW Unit,e=.returned (.map (some w.1.size))/\w'.ownsMap prog 89 (plainElem prog 3) w.1.size n D/\Uh h n D/\Below w.1.size w w':=by
 have ja:=Iq n w;go_enter func97,ntmps97;go_wp2_with fail;go_loopw[11](λi wr=>∃(k:Nat)(D:DataW Unit),k<=n/\i=.i k/\Below w.1.size w wr/\wr.ownsMap prog 89 (plainElem prog 3) w.1.size k D/\Uh h k D)(λi _=>n-(intOf i).toNat);case atStart=>exact⟨0,.map [],Ar _,rfl,Ak _ _,Nj _ _ _ _,Ps h⟩
 case round=>
  obtain⟨k,D,hk,rfl,hb,CG,Fe⟩:=hrel;clear ja;by_cases B7:k<n
  .obtain⟨b,off,ah,ch,rfl,Gc,Ja,Dh,Il⟩:=hc k B7;obtain⟨fk,fn,_,_,_⟩:=hf k B7;have OC:(h k).ob.k.size<=maxLen:=by unfold maxLen;omega
   have SM:(h k).ob.n.size<=maxLen:=by unfold maxLen;omega
   obtain⟨d0,d1,d2,d3,d4,d5,d6,d7,d8⟩:=Dh.below hb Za;clear hc hf Dh Il;have Qr:=WO (h k).ob.k (h k).ob.n OC SM;have HT:=Ab (TU Fe CG.isMap OC SM);have LV:=Ab CG;clear Fe CG;go_wp2_with fail;refine(En (h k).ob ah ch _).mono ?_;rintro e w1 ⟨rfl,AU⟩;have CW:=Ab (BR (LV.alloc _) AU Zbu);have Fp:=(hb.alloc hb.size (.cells (vH (h k) ah ch) 54)).trans (AU.mono dx);clear AU d0 d1 d2 d3 d4 d5 d6 d7 d8 LV;go_wp2_with (at_mapUpdate;go_must(refine wpList_mapUpdate_own _ rfl _ _ _ 157 rfl 89 3 CE underlying157 _ w.1.size k D rfl CW Zl _ _ _ rfl rfl Qr _ [] (plainElem_int underlying3 (Qn Za)) ?_;intro w3 IM Hl));go_roundw;case rel=>exact⟨k+1,_,Za,by go_num,Fp.grown Hl Fp.size (λj hj=>by cases hj;exact AG _),IM,HT⟩
   case measure=>simp[intOf];omega
  .exact F_
def IU (floor:Int)(h:Nat->Ch)(j:Nat):Bool:=match Jj h (h j).ob.k (h j).ob.n j with|none=>Ju (h j) floor|some i=>IY (h i) (h j)
theorem Oi (now floor:Int)(n:Nat)(h:Nat->Ch)(a1 a2 a3:OA)(n1 c1 c2 n3 c3:Nat)(w:World)(lo hi:Nat)(CD:hi<=w.1.size)(hl:(n:Int)<=1099511627776)(hf:∀i,i<n->Cu (h i).ob)(hc:Dv w lo hi a2 n h):Calls prog 72 #[.agg #[.i now,.i floor,.l a1 n1 c1,.l a2 n c2,.l a3 n3 c3]] w λe w'=>e=.returned (.bool (Bj (IU floor h) n))/\Below w.1.size w w':=by
 have ja:=Iq n;go_enter func72,ntmps72;go_wp2_with fail;go_loopw[16](λi wr=>∃(k:Nat)(D:DataW Unit),k<=n/\i=.i k/\Below (w.1.size+1) (w.alloc (.cells #[.i now,.i floor,.l a1 n1 c1,.l a2 n c2,.l a3 n3 c3] 36)) wr/\wr.ownsMap prog 89 (plainElem prog 3) (w.1.size+1) k D/\Uh h k D/\∀j,j<k->IU floor h j=true)(λi _=>n-(intOf i).toNat);case atStart=>have h9:=Nj (H:=Unit) (w.alloc (.cells #[.i now,.i floor,.l a1 n1 c1,.l a2 n c2,.l a3 n3 c3] 36)) prog 89 (plainElem prog 3);rw[Av]at h9;exact⟨0,.map [],Ar _,rfl,by simpa using AC (w.alloc _) _,h9,Ps h,λj hj=>absurd hj (Ae _)⟩
 case round=>
  obtain⟨k,D,hk,rfl,hb,CG,Fe,Bg⟩:=hrel;clear ja;have IK:Below w.1.size w wr:=(AC _ _).trans (hb.mono Za);have JP:w.1.size+1<=wr.1.size:=by have:=hb.size;simpa using this
  have hlt:=CG.lt;by_cases B7:k<n
  .obtain⟨b,off,ah,ch,rfl,Gc,Ja,Dh,Il⟩:=hc k B7;obtain⟨fk,fn,_,_,_⟩:=hf k B7;have OC:(h k).ob.k.size<=maxLen:=by unfold maxLen;omega
   have SM:(h k).ob.n.size<=maxLen:=by unfold maxLen;omega
   obtain⟨d0,d1,d2,d3,d4,d5,d6,d7,d8⟩:=Dh.below IK Za;have HC:=Ab hc;have HA:=Ab Bg;have Qr:=WO (h k).ob.k (h k).ob.n OC SM;have HT:=Ab (TU Fe CG.isMap OC SM);have LV:=Ab CG;clear hc hf Dh Il Bg CG;cases I4:Jj h (h k).ob.k (h k).ob.n k with
   |none=>
    have SP:=(Fe _ _ OC SM).2 I4;have HL:=Ab (show IU floor h k=Ju (h k) floor by unfold IU;rw[I4]);clear Fe I4;go_wp2_with fail;refine(En (h k).ob ah ch _).mono ?_;rintro e w1 ⟨rfl,AU⟩;have CW:=Ab (BR (LV.alloc _) AU Zbu);have Fp:Below (w.1.size+1) (w.alloc (.cells #[.i now,.i floor,.l a1 n1 c1,.l (some ⟨b,off,none⟩) n c2,.l a3 n3 c3] 36)) w1:=(hb.alloc JP (.cells (vH (h k) ah ch) 54)).trans (AU.mono Zd);have C7:wr.1.size<w1.1.size:=by have:=AU.size;simp at this;omega
    have p0:=Ay AU 0;have p1:=Ay AU 1;have p2:=Ay AU 2;have p3:=Ay AU 3;have p4:=Ay AU 4;have p5:=Ay AU 5;have p6:=Ay AU 6;have p7:=Ay AU 7;have p8:=Ay AU 8;simp only[Ah,Ai,Af]at p0 p1 p2 p3 p4 p5 p6 p7 p8;have o1:=Ay iY 1;have o3:=Ay iY 3;simp only[Ah,Ai,Af]at o1 o3;clear AU d0 d1 d2 d3 d4 d5 d6 d7 d8 LV;go_wp2_with (at_lookup;go_must(refine wpList_lookup_own_ok_int _ rfl _ _ 157 rfl 89 3 .i64 CE underlying157 underlying3 (LG _) (w.1.size+1) k D rfl (CW.alloc _) _ _ rfl Qr ?_;intro c DR Sn));have CF:Nonempty (GW (w1.alloc (.cells #[.s (h k).ob.k,.s (h k).ob.n] 89))):=⟨⟨_,Ap _ _⟩⟩;refine AP Zc Zc ?_;repeat(go_big_quiet_step(fail))
    refine wpQuiet_nil ?_;rintro w2 ⟨u,hu⟩;have Dq:Below (w1.1.size+1) (w1.alloc (.cells #[.s (h k).ob.k,.s (h k).ob.n] 89)) w2:=by have h9:=hu▸u.prop;simpa using h9
    clear hu u CF;have Fk:w1.1.size+1<=w2.1.size:=by have:=Dq.size;simpa using this
    have Ds:Below (w.1.size+1) (w.alloc (.cells #[.i now,.i floor,.l a1 n1 c1,.l (some ⟨b,off,none⟩) n c2,.l a3 n3 c3] 36)) w2:=(Fp.alloc Za _).trans (Dq.mono Za);have BH:=Ab (BR (CW.alloc _) Dq Za);have r0:=(Dq.cell (p:=⟨wr.1.size,0,none⟩) Zi).trans ((At _ _ _ C7).trans p0);have r1:=(Dq.cell (p:=⟨wr.1.size,1,none⟩) Zi).trans ((At _ _ _ C7).trans p1);have r2:=(Dq.cell (p:=⟨wr.1.size,2,none⟩) Zi).trans ((At _ _ _ C7).trans p2);have r3:=(Dq.cell (p:=⟨wr.1.size,3,none⟩) Zi).trans ((At _ _ _ C7).trans p3);have r4:=(Dq.cell (p:=⟨wr.1.size,4,none⟩) Zi).trans ((At _ _ _ C7).trans p4);have r5:=(Dq.cell (p:=⟨wr.1.size,5,none⟩) Zi).trans ((At _ _ _ C7).trans p5);have r6:=(Dq.cell (p:=⟨wr.1.size,6,none⟩) Zi).trans ((At _ _ _ C7).trans p6);have r7:=(Dq.cell (p:=⟨wr.1.size,7,none⟩) Zi).trans ((At _ _ _ C7).trans p7);have r8:=(Dq.cell (p:=⟨wr.1.size,8,none⟩) Zi).trans ((At _ _ _ C7).trans p8);have q0:w2.cell? ⟨w1.1.size,0,none⟩=some (.s (h k).ob.k):=(Dq.cell (p:=⟨w1.1.size,0,none⟩) Zbp).trans (Al _ _ _ _);have q1:w2.cell? ⟨w1.1.size,1,none⟩=some (.s (h k).ob.n):=(Dq.cell (p:=⟨w1.1.size,1,none⟩) Zbp).trans (Al _ _ _ _);have o12:w2.cell? ⟨w.1.size,1,none⟩=some (.i floor):=(Dq.cell (p:=⟨w.1.size,1,none⟩) Zf).trans ((At _ _ _ Zf).trans o1);clear p0 p1 p2 p3 p4 p5 p6 p7 p8 o1 o3 Dq DR Sn CW;cases hbg:Ju (h k) floor with
    |false=>have HE:=Ab (show Bj (IU floor h) n=false from Bd B7 (HL.trans hbg));go_wp2_with (go_at_call 96;refine(Ua (h k) floor ah ch _).mono ?_;rintro e w3 ⟨rfl,C6⟩;rw[hbg]);go_ret;exact⟨A7 HE.symm,(AC _ _).trans ((Ds.mono Za).trans (C6.mono Za))⟩
    |true=>
     have HN:=Ab (HL.trans hbg);go_wp2_with (first|(go_at_call 96;refine(Ua (h k) floor ah ch _).mono ?_;rintro e w3 ⟨rfl,C6⟩;rw[hbg];have s0:=(C6.cell (p:=⟨w1.1.size,0,none⟩) Zbp).trans q0;have s1:=(C6.cell (p:=⟨w1.1.size,1,none⟩) Zbp).trans q1;have IM:=Ab (BR BH C6 Za);have ig:=Ds.trans (C6.mono Za);have YG:=C6.size;clear C6)|(at_mapUpdate;go_must(refine wpList_mapUpdate_own _ rfl _ _ _ 157 rfl 89 3 CE underlying157 _ (w.1.size+1) k D rfl IM Zl _ _ _ rfl rfl Qr _ [] (plainElem_int underlying3 (Qn Za)) ?_;intro w4 uM Y3)));go_roundw;case rel=>exact⟨k+1,_,Za,by go_num,ig.grown Y3 Za (λj hj=>by cases hj;omega),uM,HT,λj hj=>(by
      rcases AD j k with h3|h3;.exact HA j h3
      .have:j=k:=Za;subst this;exact HN)⟩
     case measure=>simp[intOf];omega
   |some i=>
    obtain⟨SP,oM⟩:=(Fe _ _ OC SM).1 i I4;have HL:=Ab (show IU floor h k=IY (h i) (h k)by unfold IU;rw[I4]);have hik:=(Jy I4).1;have Qw:=Ab oM;clear Fe I4 oM;obtain⟨b',off',ah',ch',e,z_,SH,Ael,_⟩:=HC i Za;cases e;have Cs:(i:Int)<n:=Za;go_wp2_with fail;refine(En (h k).ob ah ch _).mono ?_;rintro e w1 ⟨rfl,AU⟩;have CW:=Ab (BR (LV.alloc _) AU Zbu);have Fp:Below (w.1.size+1) (w.alloc (.cells #[.i now,.i floor,.l a1 n1 c1,.l (some ⟨b,off,none⟩) n c2,.l a3 n3 c3] 36)) w1:=(hb.alloc JP (.cells (vH (h k) ah ch) 54)).trans (AU.mono Zd);have C7:wr.1.size<w1.1.size:=by have:=AU.size;simp at this;omega
    have p0:=Ay AU 0;have p1:=Ay AU 1;have p2:=Ay AU 2;have p3:=Ay AU 3;have p4:=Ay AU 4;have p5:=Ay AU 5;have p6:=Ay AU 6;have p7:=Ay AU 7;have p8:=Ay AU 8;simp only[Ah,Ai,Af]at p0 p1 p2 p3 p4 p5 p6 p7 p8;have o1:=Ay iY 1;have o3:=Ay iY 3;simp only[Ah,Ai,Af]at o1 o3;clear AU d0 d1 d2 d3 d4 d5 d6 d7 d8 LV;go_wp2_with (at_lookup;go_must(refine wpList_lookup_own_ok_int _ rfl _ _ 157 rfl 89 3 .i64 CE underlying157 underlying3 (LG _) (w.1.size+1) k D rfl (CW.alloc _) _ _ rfl Qr ?_;intro c DR Sn;have jw:c=(i:Int):=N6 (DR.symm.trans Qw);subst jw;clear DR Sn));have MS:Below w.1.size w (w1.alloc (.cells #[.s (h k).ob.k,.s (h k).ob.n] 89)):=(AC _ _).trans ((Fp.alloc Za _).mono Za);obtain⟨f0,f1,f2,f3,f4,f5,f6,f7,f8⟩:=Ael.below MS Za;have y0:=Aq f0 Zd;have y1:=Aq f1 Zd;have y2:=Aq f2 Zd;have y3:=Aq f3 Zd;have y4:=Aq f4 Zd;have y5:=Aq f5 Zd;have y6:=Aq f6 Zd;have y7:=Aq f7 Zd;have y8:=Aq f8 Zd;have x0:=Aq ((At (w:=w1) (.cells #[.s (h k).ob.k,.s (h k).ob.n] 89) _ _ C7).trans p0) Zd;have x1:=Aq ((At (w:=w1) (.cells #[.s (h k).ob.k,.s (h k).ob.n] 89) _ _ C7).trans p1) Zd;have x2:=Aq ((At (w:=w1) (.cells #[.s (h k).ob.k,.s (h k).ob.n] 89) _ _ C7).trans p2) Zd;have x3:=Aq ((At (w:=w1) (.cells #[.s (h k).ob.k,.s (h k).ob.n] 89) _ _ C7).trans p3) Zd;have x4:=Aq ((At (w:=w1) (.cells #[.s (h k).ob.k,.s (h k).ob.n] 89) _ _ C7).trans p4) Zd;have x5:=Aq ((At (w:=w1) (.cells #[.s (h k).ob.k,.s (h k).ob.n] 89) _ _ C7).trans p5) Zd;have x6:=Aq ((At (w:=w1) (.cells #[.s (h k).ob.k,.s (h k).ob.n] 89) _ _ C7).trans p6) Zd;have x7:=Aq ((At (w:=w1) (.cells #[.s (h k).ob.k,.s (h k).ob.n] 89) _ _ C7).trans p7) Zd;have x8:=Aq ((At (w:=w1) (.cells #[.s (h k).ob.k,.s (h k).ob.n] 89) _ _ C7).trans p8) Zd;have z3:=Aq ((At (w:=w1) (.cells #[.s (h k).ob.k,.s (h k).ob.n] 89) _ _ Zf).trans o3) Zd;have CF:Nonempty (GW (w1.alloc (.cells #[.s (h k).ob.k,.s (h k).ob.n] 89))):=⟨⟨_,Ap _ _⟩⟩;clear f0 f1 f2 f3 f4 f5 f6 f7 f8 Ael;cases hfo:IY (h i) (h k)with
    |false=>
     have HE:=Ab (show Bj (IU floor h) n=false from Bd B7 (HL.trans hfo));refine AP Zc Zc ?_;repeat(go_big_quiet_step((go_at_call 95;go_must(exact B4 (RY (h i) (h k) ah' ah ch' ch _)))))
     refine wpQuiet_nil ?_;rintro w2 ⟨u,hu⟩;have Dq:Below (w1.1.size+1) (w1.alloc (.cells #[.s (h k).ob.k,.s (h k).ob.n] 89)) w2:=by have h9:=hu▸u.prop;simpa using h9
     clear hu u CF;have Fk:w1.1.size+1<=w2.1.size:=by have:=Dq.size;simpa using this
     have Ds:Below (w.1.size+1) (w.alloc (.cells #[.i now,.i floor,.l a1 n1 c1,.l (some ⟨b,off,none⟩) n c2,.l a3 n3 c3] 36)) w2:=(Fp.alloc Za _).trans (Dq.mono Za);have BH:=Ab (BR (CW.alloc _) Dq Za);clear p0 p1 p2 p3 p4 p5 p6 p7 p8 o1 o3 Dq CW;exact cz
    |true=>
     have HN:=Ab (HL.trans hfo);refine AP Zc Zc ?_;repeat(go_big_quiet_step((go_at_call 95;go_must(exact B4 (RY (h i) (h k) ah' ah ch' ch _)))))
     refine wpQuiet_nil ?_;rintro w2 ⟨u,hu⟩;have Dq:Below (w1.1.size+1) (w1.alloc (.cells #[.s (h k).ob.k,.s (h k).ob.n] 89)) w2:=by have h9:=hu▸u.prop;simpa using h9
     clear hu u CF;have Fk:w1.1.size+1<=w2.1.size:=by have:=Dq.size;simpa using this
     have Ds:Below (w.1.size+1) (w.alloc (.cells #[.i now,.i floor,.l a1 n1 c1,.l (some ⟨b,off,none⟩) n c2,.l a3 n3 c3] 36)) w2:=(Fp.alloc Za _).trans (Dq.mono Za);have BH:=Ab (BR (CW.alloc _) Dq Za);have q0:w2.cell? ⟨w1.1.size,0,none⟩=some (.s (h k).ob.k):=(Dq.cell (p:=⟨w1.1.size,0,none⟩) Zbp).trans (Al _ _ _ _);have q1:w2.cell? ⟨w1.1.size,1,none⟩=some (.s (h k).ob.n):=(Dq.cell (p:=⟨w1.1.size,1,none⟩) Zbp).trans (Al _ _ _ _);clear p0 p1 p2 p3 p4 p5 p6 p7 p8 o1 o3 Dq CW;go_wp2_with (at_mapUpdate;go_must(refine wpList_mapUpdate_own _ rfl _ _ _ 157 rfl 89 3 CE underlying157 _ (w.1.size+1) k D rfl BH Zl _ _ _ rfl rfl Qr _ [] (plainElem_int underlying3 (Qn Za)) ?_;intro w4 uM Y3));go_roundw;case rel=>exact⟨k+1,_,Za,by go_num,Ds.grown Y3 Za (λj hj=>by cases hj;omega),uM,HT,λj hj=>(by
      rcases AD j k with h3|h3;.exact HA j h3
      .have:j=k:=Za;subst this;exact HN)⟩
     case measure=>simp[intOf];omega
  .have HE:=Ab (show Bj (IU floor h) n=true from AS.2 (λi hi=>Bg i Za));clear hc hf CG Fe Bg;exact eM
def Mc (t:Ti)(now:Int):Bool:=Cc t.c&&(G6 t.num 1 1000000&&(decide (t.print.size=8)&&(G6 t.code 0 9&&G6 t.t 0 now)))
theorem Rg (t:Ti)(now:Int)(w:World)(hf:XB t):Calls prog 102 #[.agg (vT t),.i now] w λe w'=>e=.returned (.bool (Mc t now))/\Below w.1.size w w':=by have tz:=hf.c;have hfp:=hf.p;cases hn:Cc t.c with
 |false=>have HE:=Ab (show Mc t now=false by unfold Mc;simp[hn]);go_enter func102,ntmps102;go_wp2_with (first|(go_at_call 107;refine(Iw _ _ tz).mono ?_;rintro e w1 ⟨rfl,rfl⟩;rw[hn])|(go_at_call 46;refine(Gd _ _ _ _).mono ?_;rintro e w1 ⟨rfl,rfl⟩;skip));exact Kx
 |true=>cases h1:G6 t.num 1 1000000 with
 |false=>have HE:=Ab (show Mc t now=false by unfold Mc;simp[hn,h1]);exact vr
 |true=>
 by_cases hp:t.print.size=8;case neg=>have hpz:¬(t.print.size:Int)=8:=Za;have HE:=Ab (show Mc t now=false by unfold Mc;simp[hn,h1,hp]);exact vr
 have hpz:(t.print.size:Int)=8:=Za;cases h2:G6 t.code 0 9 with
 |false=>have HE:=Ab (show Mc t now=false by unfold Mc;simp[hn,h1,h2,hp]);exact I'
 |true=>have HE:=Ab (show Mc t now=G6 t.t 0 now by unfold Mc;simp[hn,h1,h2,hp]);exact I'
theorem NJ (x z:Ti)(w:World):Calls prog 101 #[.agg (vT x),.agg (vT z)] w λe w'=>e=.returned (.bool (Gt x.c z.c))/\Below w.1.size w w':=by go_enter func101,ntmps101;go_wp2;go_ret;exact⟨rfl,(AC _ _).alloc Ze _⟩
def Pv (n:Nat)(x:Nat->Ti):Bool:=Bj (λi=>i==0||Gt (x (i-1)).c (x i).c) n
theorem TL (n:Nat)(x:Nat->Ti)(ad:OA)(cap:Nat)(w:World)(lo hi:Nat)(CD:hi<=w.1.size)(hl:(n:Int)<=140737488355328)(hc:DD w lo hi ad n x):Calls prog 100 #[.l ad n cap,.func (.func 101) #[] #[]] w λe w'=>e=.returned (.bool (Pv n x))/\Below w.1.size w w':=by
 go_enter func100,ntmps100;go_wp2;go_loopw[5](λi wr=>∃k:Nat,1<=k/\(k<=n\/k=1)/\i=.i k/\(∀j,j<k->(j==0||Gt (x (j-1)).c (x j).c)=true)/\Below w.1.size w wr)(λi _=>n-(intOf i).toNat);case atStart=>exact⟨1,AG _,Az rfl,rfl,λj hj=>(by have:j=0:=Za;subst this;rfl),Ap _ _⟩
 case round=>
  obtain⟨k,pH,hk,rfl,Bg,hb⟩:=hrel;by_cases B7:k<n
  .obtain⟨m,rfl⟩:∃m,k=m+1:=⟨k-1,Za⟩;obtain⟨b,off,rfl,Gc,Ja,Dh⟩:=hc (m+1) B7;obtain⟨b',off',e,_,SH,We⟩:=hc m Za;cases e;obtain⟨d0,d1,d2,d3,d4⟩:=Dh.below hb Za;obtain⟨q0,q1,q2,q3,q4⟩:=We.below hb Za;have Gr:b<wr.1.size:=by have:=hb.size;omega
   have rd0:=Aq d0 Gr;have rd1:=Aq d1 Gr;have rd2:=Aq d2 Gr;have rd3:=Aq d3 Gr;have rd4:=Aq d4 Gr;have rp0:=Aq q0 Gr;have rp1:=Aq q1 Gr;have rp2:=Aq q2 Gr;have rp3:=Aq q3 Gr;have rp4:=Aq q4 Gr;have CF:Nonempty (GW wr):=⟨⟨wr,Ap _ _⟩⟩;have HA:=Ab Bg;have tt:(m:Int)+1<=n:=Za;clear Bg hc hk Dh We d0 d1 d2 d3 d4 q0 q1 q2 q3 q4;cases hlt:Gt (x m).c (x (m+1)).c with
   |false=>
    have HE:=Ab (show Pv n x=false from Bd (p:=λi=>i==0||Gt (x (i-1)).c (x i).c) B7 (by simp[hlt]));go_wp2;refine AP Zc Zc ?_;repeat(go_big_quiet_step((go_at_call 101;go_must(exact B4 (NJ (x m) (x (m+1)) _)))))
    exact vG
   |true=>
    have HN:=Ab (show(m+1==0||Gt (x (m+1-1)).c (x (m+1)).c)=true by simp[hlt]);go_wp2;refine AP Zc Zc ?_;repeat(go_big_quiet_step((go_at_call 101;go_must(exact B4 (NJ (x m) (x (m+1)) _)))))
    exact Acz
  .have HE:=Ab (show Pv n x=true from AS.2 (λi hi=>Bg i Za));clear Bg hc hk;exact PI
def Iz (n:Nat)(x:Nat->Ti)(now:Int):Bool:=decide (n<=50)&&(Pv n x&&Bj (λi=>Mc (x i) now) n)
theorem Pj (now floor:Int)(n:Nat)(x:Nat->Ti)(a1 a2 a3:OA)(n1 c1 n2 c2 c3:Nat)(w:World)(lo hi:Nat)(CD:hi<=w.1.size)(hl:(n:Int)<=1099511627776)(hf:∀i,i<n->XB (x i))(hc:DD w lo hi a3 n x):Calls prog 74 #[.agg #[.i now,.i floor,.l a1 n1 c1,.l a2 n2 c2,.l a3 n c3]] w λe w'=>e=.returned (.bool (Iz n x now))/\Below w.1.size w w':=by
 have Tj:=λo=>hc.below (AC w o) CD;by_cases jt:(50:Int)<n;.have HE:=Ab (show Iz n x now=false by unfold Iz;rw[decide_eq_false Za];rfl);go_enter func74,ntmps74;go_wp2;exact Kx
 cases ha:Pv n x with
 |false=>have HE:=Ab (show Iz n x now=false by unfold Iz;rw[ha];simp);go_enter func74,ntmps74;go_wp2_with (go_at_call 100;refine(TL n x a3 c3 _ lo hi Zd Za (Tj _)).mono ?_;rintro e w1 ⟨rfl,AU⟩);exact jL
 |true=>
  have HAS:=Ab ha;go_enter func74,ntmps74;go_wp2_with (go_at_call 100;refine(TL n x a3 c3 _ lo hi Zd Za (Tj _)).mono ?_;rintro e w1 ⟨rfl,AU⟩;have k0:=Ay AU 0;have k4:=Ay AU 4;simp only[Ah,Ai,Af]at k0 k4;have Fp:Below w.1.size w w1:=(AC _ _).trans (AU.mono Ze);have C7:w.1.size<w1.1.size:=Zas;clear AU);go_loopw[18](λi wr=>∃k:Nat,k<=n/\i=.i k/\(∀j,j<k->Mc (x j) now=true)/\Below w.1.size w wr/\w.1.size<wr.1.size/\wr.cell? ⟨w.1.size,0,none⟩=some (.i now))(λi _=>n-(intOf i).toNat);case atStart=>exact⟨0,Ar _,rfl,λj hj=>absurd hj (Ae _),Fp,C7,k0⟩
  case round=>
   obtain⟨k,hk,rfl,Bg,hb,hz,FV⟩:=hrel;by_cases B7:k<n;.obtain⟨b,off,rfl,Gc,Ja,Dh⟩:=hc k B7;have My:=hf k B7;obtain⟨d0,d1,d2,d3,d4⟩:=Dh.below hb Za;have HA:=Ab Bg;clear Bg hc hf Dh Tj k0 k4 Fp C7 ha;cases hp:Mc (x k) now with
    |false=>have HE:=Ab (show Iz n x now=false by unfold Iz;rw[Bd (p:=λi=>Mc (x i) now) B7 hp];simp);go_wp2_with (go_at_call 102;refine(Rg (x k) now _ My).mono ?_;rintro e w2 ⟨rfl,BT⟩;rw[hp]);exact yY
    |true=>
     have HP:=Ab hp;go_wp2_with (go_at_call 102;refine(Rg (x k) now _ My).mono ?_;rintro e w2 ⟨rfl,BT⟩;rw[hp]);have Ds:Below w.1.size w w2:=(hb.alloc hb.size _).trans (BT.mono dx);have Fk:w.1.size<w2.1.size:=by have:=BT.size;simp at this;omega
     have h00:w2.cell? ⟨w.1.size,0,none⟩=some (.i now):=(BT.cell (p:=⟨w.1.size,0,none⟩) Zd).trans ((At _ _ _ hz).trans FV);go_roundw;case rel=>exact⟨k+1,Za,by go_num,λj hj=>(by
      rcases AD j k with h3|h3;.exact HA j h3
      .have:j=k:=Za;subst this;exact HP),Ds,Fk,h00⟩
     case measure=>simp[intOf];omega
   .have HE:=Ab (show Iz n x now=true by unfold Iz;rw[HAS.out,decide_eq_true (show n<=50 by omega),AS.2 (λi hi=>Bg i Za)];rfl);clear Bg hc hf Tj;exact PI
def K8 (now floor:Int):Bool:=G6 now 0 1000000&&G6 floor 0 now
theorem Pt (now floor:Int)(a1 a2 a3:OA)(n1 c1 n2 c2 n c3:Nat)(w:World):Calls prog 68 #[.agg #[.i now,.i floor,.l a1 n1 c1,.l a2 n2 c2,.l a3 n c3]] w λe w'=>e=.returned (.bool (K8 now floor))/\Below w.1.size w w':=by cases h1:G6 now 0 1000000 with
 |false=>have HE:=Ab (show K8 now floor=false by unfold K8;rw[h1];rfl);exact j_
 |true=>have HE:=Ab (show K8 now floor=G6 floor 0 now by unfold K8;rw[h1];rfl);exact j_
def YQ (n:Nat)(s:Nat->ByteArray)(m:Nat)(t:Nat->ByteArray):Bool:=decide (n=m)&&Bj (λi=>decide (s i=t i)) n
def Cv (x z:Ob):Bool:=decide (x.k=z.k)&&(decide (x.n=z.n)&&(decide (x.t=z.t)&&(decide (x.b=z.b)&&(decide (x.m=z.m)&&(decide (x.e=z.e)&&YQ x.hn x.hs z.hn z.hs)))))
theorem GZ (h:¬a=b):(a.toList==b.toList)=false:=by cases hb:(a.toList==b.toList)with
 |false=>rfl
 |true=>exact absurd (IV (eq_of_beq hb)) h
theorem iC (w:World)(a b:Nat):∃q,(w.drewN a).drewN b=w.drewN q:=⟨a+b,by simp[World.drewN,BN]⟩
theorem U3 (n m:Nat)(s t:Nat->ByteArray)(ad CY:OA)(cap cap2:Nat)(w:World)(lo hi lo2 hi2:Nat)(hl:(n:Int)<=140737488355328)(hm:(m:Int)<=140737488355328)(hc:AK w lo hi ad n s)(MQ:AK w lo2 hi2 CY m t):Calls prog 111 #[.l ad n cap,.l CY m cap2] w λe w'=>e=.returned (.bool (YQ n s m t))/\∃q,w'=w.drewN q:=by
 by_cases hq:n=m;case neg=>have HE:=Ab (show YQ n s m t=false by simp[YQ,hq]);have hd:¬(n:Int)=m:=Za;go_enter func111,ntmps111;go_wp2;go_ret;exact⟨A7 HE.symm,0,rfl⟩
 subst hq;go_enter func111,ntmps111;go_wp2;go_loopw[13](λi wr=>∃k:Nat,k<=n/\i=.i k/\(∀j,j<k->s j=t j)/\∃q,wr=w.drewN q)(λi _=>n-(intOf i).toNat);case atStart=>exact⟨0,Ar _,rfl,λj hj=>absurd hj (Ae _),0,rfl⟩
 case round=>
  obtain⟨k,hk,rfl,Bg,q,rfl⟩:=hrel;by_cases B7:k<n
  .obtain⟨b,off,rfl,Gc,Ja,Dh⟩:=hc k B7;obtain⟨b2,off2,rfl,Aao,Aag,Wq⟩:=MQ k B7;have HA:=Ab Bg;clear hc MQ Bg;by_cases he:s k=t k
   .have HS:=Ab he;have hd:((s k).toList==(t k).toList)=true:=by rw[he];simp
    clear he;go_wp2;go_quiet(fail);go_wp2;go_roundw;case rel=>exact⟨k+1,Za,by go_num,λj hj=>(by
     rcases AD j k with h3|h3;.exact HA j h3
     .have:j=k:=Za;subst this;exact HS),_,rfl⟩
    case measure=>simp[intOf];omega
   .have HE:=Ab (show YQ n s n t=false by unfold YQ;rw[Bd (p:=λi=>decide (s i=t i)) B7 (by simp[he])];simp);have hd:((s k).toList==(t k).toList)=false:=GZ he;clear he;go_wp2;go_quiet(fail);go_wp2;go_ret;exact⟨A7 HE.symm,iC _ _ _⟩
  .have HE:=Ab (show YQ n s n t=true by unfold YQ;rw[AS.2 (λi hi=>by simp[Bg i Za])];simp);clear hc MQ Bg;go_wp2;go_ret;exact⟨A7 HE.symm,q,rfl⟩
theorem aL (x z:Ob)(ad CY:OA)(cap cap2:Nat)(w:World)(lo hi:Nat)(CD:hi<=w.1.size)(hx:(x.hn:Int)<=140737488355328)(hz:(z.hn:Int)<=140737488355328)(hc:AK w lo hi ad x.hn x.hs)(MQ:AK w lo hi CY z.hn z.hs):Calls prog 89 #[.agg (vO x ad cap),.agg (vO z CY cap2)] w λe w'=>e=.returned (.bool (Cv x z))/\Below w.1.size w w':=by
 obtain⟨k,na,v,bo,te,en,hn,hs⟩:=x;obtain⟨k',na',v',bo',te',en',hn',hs'⟩:=z;dsimp only at hx hz hc MQ⊢;by_cases hq:k=k';case neg=>have HE:=Ab (show Cv ⟨k,na,v,bo,te,en,hn,hs⟩ ⟨k',na',v',bo',te',en',hn',hs'⟩=false by simp[Cv,hq]);have hd:(k.toList==k'.toList)=false:=GZ hq;clear hq;exact iH
 subst hq;by_cases hq:na=na';case neg=>have HE:=Ab (show Cv ⟨k,na,v,bo,te,en,hn,hs⟩ ⟨k,na',v',bo',te',en',hn',hs'⟩=false by simp[Cv,hq]);have hd:(na.toList==na'.toList)=false:=GZ hq;clear hq;exact iH
 subst hq;by_cases hq:v=v';case neg=>have HE:=Ab (show Cv ⟨k,na,v,bo,te,en,hn,hs⟩ ⟨k,na,v',bo',te',en',hn',hs'⟩=false by simp[Cv,hq]);have hd:=hq;exact iH
 subst hq;by_cases hq:bo=bo';case neg=>have HE:=Ab (show Cv ⟨k,na,v,bo,te,en,hn,hs⟩ ⟨k,na,v,bo',te',en',hn',hs'⟩=false by simp[Cv,hq]);have hd:=hq;exact iH
 subst hq;by_cases hq:te=te';case neg=>have HE:=Ab (show Cv ⟨k,na,v,bo,te,en,hn,hs⟩ ⟨k,na,v,bo,te',en',hn',hs'⟩=false by simp[Cv,hq]);have hd:(te.toList==te'.toList)=false:=GZ hq;clear hq;exact iH
 subst hq;by_cases hq:en=en';case neg=>
  have HE:=Ab (show Cv ⟨k,na,v,bo,te,en,hn,hs⟩ ⟨k,na,v,bo,te,en',hn',hs'⟩=false by simp[Cv,hq]);have hd:(en==en')=false:=by simpa using hq
  clear hq;cases en<;>cases en'<;>simp at hd;all_goals go_enter func89,ntmps89;go_wp2;go_ret;exact⟨A7 HE.symm,((AC _ _).alloc Ze _)⟩
 subst hq;by_cases hq:hn=hn';case neg=>have HE:=Ab (show Cv ⟨k,na,v,bo,te,en,hn,hs⟩ ⟨k,na,v,bo,te,en,hn',hs'⟩=false by simp[Cv,YQ,hq]);have hd:¬(hn:Int)=hn':=Za;exact iH
 subst hq;go_enter func89,ntmps89;go_wp2;go_loopw[5](λi wr=>∃j:Nat,j<=hn/\i=.i j/\(∀l,l<j->hs l=hs' l)/\∃q,wr=((w.alloc (.cells #[.s k,.s na,.i v,.i bo,.s te,.bool en,.l ad hn cap] 52)).alloc (.cells #[.s k,.s na,.i v,.i bo,.s te,.bool en,.l CY hn cap2] 52)).drewN q)(λi _=>hn-(intOf i).toNat);case atStart=>exact⟨0,Ar _,rfl,λj hj=>absurd hj (Ae _),0,rfl⟩
 case round=>
  obtain⟨j,hj,rfl,Bg,q,rfl⟩:=hrel;by_cases B7:j<hn
  .obtain⟨b,off,rfl,Gc,Ja,Dh⟩:=hc j B7;obtain⟨b2,off2,rfl,Aao,Aag,Wq⟩:=MQ j B7;have Gr:b<w.1.size:=Za;have Aaj:b2<w.1.size:=Za;have f1:=λo1 o2=>(At (w:=w.alloc o1) o2 _ _ Zd).trans ((At (w:=w) o1 _ _ Gr).trans Dh);have f2:=λo1 o2=>(At (w:=w.alloc o1) o2 _ _ Zd).trans ((At (w:=w) o1 _ _ Aaj).trans Wq);have HA:=Ab Bg;clear hc MQ Bg;by_cases he:hs j=hs' j
   .have HS:=Ab he;have hd:((hs j).toList==(hs' j).toList)=true:=by rw[he];simp
    clear he;go_wp2;go_quiet(fail);go_wp2;go_roundw;case rel=>exact⟨j+1,Za,by go_num,λl hl=>(by
     rcases AD l j with h3|h3;.exact HA l h3
     .have:l=j:=Za;subst this;exact HS),_,rfl⟩
    case measure=>simp[intOf];omega
   .have HE:=Ab (show Cv ⟨k,na,v,bo,te,en,hn,hs⟩ ⟨k,na,v,bo,te,en,hn,hs'⟩=false by simp only[Cv,YQ];rw[Bd (p:=λi=>decide (hs i=hs' i)) B7 (by simp[he])];simp);have hd:((hs j).toList==(hs' j).toList)=false:=GZ he;clear he;go_wp2;go_quiet(fail);go_wp2;go_ret;exact⟨A7 HE.symm,((AC _ _).alloc Ze _).trans (((BY _ _).trans ((BY _ _).mono Ze)).mono Zd)⟩
  .have HE:=Ab (show Cv ⟨k,na,v,bo,te,en,hn,hs⟩ ⟨k,na,v,bo,te,en,hn,hs'⟩=true by simp only[Cv,YQ];rw[AS.2 (λi hi=>by simp[Bg i Za])];simp);clear hc MQ Bg;go_wp2;go_ret;exact⟨A7 HE.symm,((AC _ _).alloc Ze _).trans ((BY _ _).mono Zd)⟩
theorem Afl{W:World}{b:Nat}{v0 v1 v2 v3 v4 v5 v6:Value}(h:AE W b 7 (AV [v0,v1,v2,v3,v4,v5,v6])):(∀u:GW W,u.val.cell? ⟨b,0,none⟩=some v0)/\(∀u:GW W,u.val.cell? ⟨b,1,none⟩=some v1)/\(∀u:GW W,u.val.cell? ⟨b,2,none⟩=some v2)/\(∀u:GW W,u.val.cell? ⟨b,3,none⟩=some v3)/\(∀u:GW W,u.val.cell? ⟨b,4,none⟩=some v4)/\(∀u:GW W,u.val.cell? ⟨b,5,none⟩=some v5)/\(∀u:GW W,u.val.cell? ⟨b,6,none⟩=some v6):=⟨Aq (h.cell 0 Za) h.lt,Aq (h.cell 1 Za) h.lt,Aq (h.cell 2 Za) h.lt,Aq (h.cell 3 Za) h.lt,Aq (h.cell 4 Za) h.lt,Aq (h.cell 5 Za) h.lt,Aq (h.cell 6 Za) h.lt⟩
theorem Ah4{P:World->Prop}{w:World}{a0 a1 a2 a3 a4 a5 a6 b0 b1 b2 b3 b4 b5 b6:Value}{t:TypeId}(h:∀W,AE W w.1.size 7 (AV [a0,a1,a2,a3,a4,a5,a6])->AE W (w.1.size+1) 7 (AV [b0,b1,b2,b3,b4,b5,b6])->Below w.1.size w W->P W):P ((w.alloc (.cells #[a0,a1,a2,a3,a4,a5,a6] t)).alloc (.cells #[b0,b1,b2,b3,b4,b5,b6] t)):=by have r2:=AE.new (w:=w.alloc (.cells #[a0,a1,a2,a3,a4,a5,a6] t)) (l:=[b0,b1,b2,b3,b4,b5,b6]) (t:=t) Dx;rw[Av]at r2;exact h _ (AE.new (w:=w) (l:=[a0,a1,a2,a3,a4,a5,a6]) (t:=t) (AC _ _)) r2 ((AC _ _).alloc Ze _)
theorem Sl (x z:Ob)(ad CY:OA)(cap cap2:Nat)(w:World)(lo hi:Nat)(CD:hi<=w.1.size)(hx:(x.hn:Int)<=140737488355328)(hz:(z.hn:Int)<=140737488355328)(hc:AK w lo hi ad x.hn x.hs)(MQ:AK w lo hi CY z.hn z.hs):Calls prog 98 #[.agg (vO x ad cap),.agg (vO z CY cap2)] w λe w'=>e=.returned (.bool (Cv x z))/\Below w.1.size w w':=by
 obtain⟨k,na,v,bo,te,en,hn,hs⟩:=x;obtain⟨k',na',v',bo',te',en',hn',hs'⟩:=z;have hk:((k.toList==k'.toList)=false/\Cv ⟨k,na,v,bo,te,en,hn,hs⟩ ⟨k',na',v',bo',te',en',hn',hs'⟩=false)\/(k=k'/\(na.toList==na'.toList)=false/\Cv ⟨k,na,v,bo,te,en,hn,hs⟩ ⟨k',na',v',bo',te',en',hn',hs'⟩=false)\/(k=k'/\na=na'/\(v==v')=false/\Cv ⟨k,na,v,bo,te,en,hn,hs⟩ ⟨k',na',v',bo',te',en',hn',hs'⟩=false)\/(k=k'/\na=na'/\v=v'/\(bo==bo')=false/\Cv ⟨k,na,v,bo,te,en,hn,hs⟩ ⟨k',na',v',bo',te',en',hn',hs'⟩=false)\/(k=k'/\na=na'/\v=v'/\bo=bo'/\(te.toList==te'.toList)=false/\Cv ⟨k,na,v,bo,te,en,hn,hs⟩ ⟨k',na',v',bo',te',en',hn',hs'⟩=false)\/(k=k'/\na=na'/\v=v'/\bo=bo'/\te=te'/\(en==en')=false/\Cv ⟨k,na,v,bo,te,en,hn,hs⟩ ⟨k',na',v',bo',te',en',hn',hs'⟩=false)\/(k=k'/\na=na'/\v=v'/\bo=bo'/\te=te'/\en=en'/\Cv ⟨k,na,v,bo,te,en,hn,hs⟩ ⟨k',na',v',bo',te',en',hn',hs'⟩=YQ hn hs hn' hs'):=by
  by_cases q0:k=k';case neg=>exact AA ⟨GZ q0,by simp[Cv,q0]⟩
  subst q0;by_cases q1:na=na';case neg=>exact Az (AA ⟨rfl,GZ q1,by simp[Cv,q1]⟩)
  subst q1;by_cases q2:v=v';case neg=>exact Az (Az (AA ⟨rfl,rfl,by simpa using q2,by simp[Cv,q2]⟩))
  subst q2;by_cases q3:bo=bo';case neg=>exact Az (Az (Az (AA ⟨rfl,rfl,rfl,by simpa using q3,by simp[Cv,q3]⟩)))
  subst q3;by_cases q4:te=te';case neg=>exact Az (Az (Az (Az (AA ⟨rfl,rfl,rfl,rfl,GZ q4,by simp[Cv,q4]⟩))))
  subst q4;by_cases q5:en=en';case neg=>exact Az (Az (Az (Az (Az (AA ⟨rfl,rfl,rfl,rfl,rfl,by simpa using q5,by simp[Cv,q5]⟩)))))
  subst q5;exact Az (Az (Az (Az (Az (Az ⟨rfl,rfl,rfl,rfl,rfl,rfl,by simp[Cv]⟩)))))
 rcases hk with⟨hd,HE⟩|⟨rfl,hd,HE⟩|⟨rfl,rfl,hd,HE⟩|⟨rfl,rfl,rfl,hd,HE⟩|⟨rfl,rfl,rfl,rfl,hd,HE⟩|⟨rfl,rfl,rfl,rfl,rfl,hd,HE⟩|⟨rfl,rfl,rfl,rfl,rfl,rfl,HE⟩;all_goals
  have iu:=Ab HE;clear HE;go_enter func98,ntmps98;go_wp2;refine Ah4 (P:=λX=>Code.wp prog _ _ _ X) (λW r1 r2 hB=>?_);have CF:Nonempty (GW W):=⟨⟨_,Ap _ _⟩⟩;obtain⟨x0,x1,x2,x3,x4,x5,x6⟩:=Afl r1;obtain⟨z0,z1,z2,z3,z4,z5,z6⟩:=Afl r2;have Un:=λu:GW W=>hc.below (hB.trans (u.prop.mono hB.size)) CD;have lS:=λu:GW W=>MQ.below (hB.trans (u.prop.mono hB.size)) CD;refine AP Zc Zc ?_;repeat(go_big_quiet_step((first|(go_at_call 40;exact B4 (En ⟨_,_,_,_,_,_,_,hs⟩ _ _ _))|(go_at_call 111;exact B4 ((U3 hn hn' hs hs' ad CY cap cap2 _ lo hi lo hi hx hz (Un _) (lS _)).mono (λe w' h=>⟨h.1,(by obtain⟨q,hq⟩:=h.2;rw[hq];exact BY _ _)⟩))))))
  refine wpQuiet_nil ?_;rintro w2 ⟨u,hu⟩;have Dq:=hB.trans ((show Below W.1.size W w2 from hu▸u.prop).mono hB.size);clear hu u CF x0 x1 x2 x3 x4 x5 x6 z0 z1 z2 z3 z4 z5 z6;go_wp2;go_ret;exact⟨A7 iu.symm,Dq⟩
theorem OM (x z:Ob):(ET x z==0)=(decide (x.k=z.k/\x.n=z.n)):=by
 unfold ET;by_cases hk:x.k=z.k
 .rw[hk,IG rfl];by_cases hn:x.n=z.n;.rw[hn,IG rfl];simp
  .have h2:¬x.n.toList=z.n.toList:=λe=>hn (IV e);cases Gt x.n z.n<;>simp[hn,h2]
 .have h1:¬x.k.toList=z.k.toList:=λe=>hk (IV e);cases Gt x.k z.k<;>simp[hk,h1]
theorem Yp{j:Nat}:∀{m:Nat},j<=m->(∀l,j<=l->l<m->¬((h l).ob.k=a/\(h l).ob.n=b))->Jj h a b m=Jj h a b j:=by intro m hm;induction m with
 |zero=>intro _;have:j=0:=Za;subst this;rfl
 |succ m ih=>
  intro Bg;rcases AD m j with h3|h3;.have:j=m+1:=Za;subst this;rfl
  .rw[NP (Bg m h3 Za)];exact ih h3 (λl h1 h2=>Bg l h1 Za)
def Jg (h:Nat->Ch)(o:Ob)(m:Nat):Int:=match Jj h o.k o.n m with|none=>-1|some i=>i
theorem M2 (n m:Nat)(h:Nat->Ch)(o:Ob)(ad CY:OA)(cap cap2:Nat)(w:World)(lo hi:Nat)(CD:hi<=w.1.size)(hl:(n:Int)<=1099511627776)(hm:m<=n)(hc:Dv w lo hi ad n h):Calls prog 87 #[.l ad n cap,.agg (vO o CY cap2),.i m] w λe w'=>e=.returned (.i (Jg h o m))/\Below w.1.size w w':=by
 go_enter func87,ntmps87;go_wp2;go_loopw[7](λi wr=>∃j:Nat,j<=m/\i=.i ((j:Int)-1)/\(∀l,j<=l->l<m->¬((h l).ob.k=o.k/\(h l).ob.n=o.n))/\Below (w.1.size+1) (w.alloc (.cells (vO o CY cap2) 52)) wr)(λi _=>(intOf i+1).toNat);case atStart=>exact⟨m,AG _,by go_num,λl h1 h2=>absurd h2 Za,Ap _ _⟩
 case round=>
  obtain⟨j,hj,rfl,Bg,hb⟩:=hrel;have IK:Below w.1.size w wr:=(AC _ _).trans (hb.mono Za);have JP:w.1.size+1<=wr.1.size:=by have:=hb.size;simpa using this
  rcases Bi j with rfl|hjp;.have HE:=Ab (show Jg h o m=-1 by unfold Jg;rw[Yp S4 Bg];rfl);clear hc Bg;go_wp2;go_ret;exact⟨Kj HE.symm,IK⟩
  .obtain⟨k,rfl⟩:∃k,j=k+1:=⟨j-1,Za⟩;obtain⟨b,off,ah,ch,rfl,Gc,Ja,Dh,Il⟩:=hc k Za;obtain⟨d0,d1,d2,d3,d4,d5,d6,d7,d8⟩:=Dh.below IK Za;have Gr:b<wr.1.size:=Za;have y2:=Aq d2 Gr;have y3:=Aq d3 Gr;have y4:=Aq d4 Gr;have y5:=Aq d5 Gr;have y6:=Aq d6 Gr;have y7:=Aq d7 Gr;have y8:=Aq d8 Gr;have z0:=Aq (p:=⟨w.1.size,0,none⟩) (v:=.s o.k) (Ay (w:=w) (c:=(vO o CY cap2)) (t:=52) Zp 0) Zf;have z1:=Aq (p:=⟨w.1.size,1,none⟩) (v:=.s o.n) (Ay (w:=w) (c:=(vO o CY cap2)) (t:=52) Zp 1) Zf;have z2:=Aq (p:=⟨w.1.size,2,none⟩) (v:=.i o.t) (Ay (w:=w) (c:=(vO o CY cap2)) (t:=52) Zp 2) Zf;have z3:=Aq (p:=⟨w.1.size,3,none⟩) (v:=.i o.b) (Ay (w:=w) (c:=(vO o CY cap2)) (t:=52) Zp 3) Zf;have z4:=Aq (p:=⟨w.1.size,4,none⟩) (v:=.s o.m) (Ay (w:=w) (c:=(vO o CY cap2)) (t:=52) Zp 4) Zf;have z5:=Aq (p:=⟨w.1.size,5,none⟩) (v:=.bool o.e) (Ay (w:=w) (c:=(vO o CY cap2)) (t:=52) Zp 5) Zf;have z6:=Aq (p:=⟨w.1.size,6,none⟩) (v:=.l CY o.hn cap2) (Ay (w:=w) (c:=(vO o CY cap2)) (t:=52) Zp 6) Zf;have CF:Nonempty (GW wr):=⟨⟨wr,Ap _ _⟩⟩;have tt:(k:Int)+1<=n:=Za;have pH:((k+1:Nat):Int)-1=(k:Int):=Za;have HA:=Ab Bg;clear Bg hc Dh Il d0 d1 d2 d3 d4 d5 d6 d7 d8;rw[pH];by_cases hh:(h k).ob.k=o.k/\(h k).ob.n=o.n
   .have HE:=Ab (show Jg h o m=k by unfold Jg;rw[Yp hj HA.out,NR hh]);have hd:(ET (h k).ob o==0)=true:=by rw[OM];exact decide_eq_true hh
    clear hh;go_wp2;refine AP Zc Zc ?_;repeat(go_big_quiet_step((go_at_call 42;go_must(exact B4 (Mo (h k).ob o _ _ _ _ _)))))
    refine wpQuiet_nil ?_;rintro w2 ⟨u,hu⟩;have Dq:Below wr.1.size wr w2:=hu▸u.prop;clear hu u;go_wp2;go_ret;exact⟨Kj HE.symm,IK.trans (Dq.mono Za)⟩
   .have HN:=Ab hh;have hd:(ET (h k).ob o==0)=false:=by rw[OM];exact decide_eq_false hh
    clear hh;go_wp2;refine AP Zc Zc ?_;repeat(go_big_quiet_step((go_at_call 42;go_must(exact B4 (Mo (h k).ob o _ _ _ _ _)))))
    refine wpQuiet_nil ?_;rintro w2 ⟨u,hu⟩;have Dq:Below wr.1.size wr w2:=hu▸u.prop;clear hu u;go_wp2;go_roundw;case rel=>exact⟨k,Za,by go_num,λl h1 h2=>(by
     rcases AD k l with h3|h3;.exact HA l h3 h2
     .have:l=k:=Za;subst this;exact HN),hb.trans (Dq.mono Za)⟩
    case measure=>simp[intOf]
end Go.Proofs.YtdknjmgdgnmhjaaGreat
