import Derived.Test.YtokkbdlofbdljaaGreatVj
namespace Go.Proofs.YtokkbdlofbdljaaGreat
open Go.RowKit
set_option maxHeartbeats 8000000
structure TkV (r:Rc):Prop where
 vd:VdR r
 aw:AckW r
 nu:1≤r.num∧r.num≤10
 of:0≤r.of∧r.of≤10
 hd:0≤r.hd∧r.hd≤1000000
 tl:r.tr=true→r.ld=false
theorem Ih {r:Rc} (h:rcB r=true):TkV r:=by
 have hv:=VdR.of h
 simp only [rcB,Yw,Bool.and_eq_true] at h
 obtain ⟨h0,h1,h2,h3,h4,h5,h6,h7,h8,h9,_,_⟩:=h
 simp only [Yc,Bool.and_eq_true] at h1
 have ho:=Yj h1.1
 have hn:=Yj h1.2
 have hh:=Yj h6
 simp only [aksB,ascA,Bool.and_eq_true,allTo_iff] at h9
 have a9:∀ i,i<r.an→(1≤(r.as_ i).ix∧(r.as_ i).ix≤60)∧numB r.of (r.as_ i).n (r.as_ i).s=true:=fun i hi=>by have:=h9.1 i hi;simp only [akOk,Bool.and_eq_true] at this;exact ⟨Yj this.1,this.2⟩
 refine ⟨hv,⟨fun i hi=>(a9 i hi).1,hv.ack.asc,fun i hi a ha=>by have f:=(JK (a9 i hi).2).1 a ha;omega,hv.ack.fasc,hv.ack.k0,hv.ack.k1,hv.ack.dn⟩,by omega,by omega,hh,fun e=>?_⟩
 rw [e] at h0
 simpa using h0
theorem IG (f:ByteArray→Bool) (ws:Nat→ByteArray) (P:ByteArray→Prop):∀ j,(∀ i,i<j→P (ws i))→∀ i,i<(drp f ws j).1→P ((drp f ws j).2 i)
 | 0,_,i,hi=>absurd hi (nlz _)
 | j+1,h,i,hi=>by
  have ih:=IG f ws P j (fun i hi=>h i (by omega))
  by_cases e:f (ws j)=true
  ·have e2:drp f ws (j+1)=drp f ws j:=if_pos e
   rw [e2] at hi ⊢
   exact ih i hi
  ·have e2:drp f ws (j+1)=((drp f ws j).1+1,updF (drp f ws j).2 (drp f ws j).1 (ws j)):=if_neg e
   rw [e2] at hi ⊢
   show P (updF (drp f ws j).2 (drp f ws j).1 (ws j) i)
   by_cases ei:i=(drp f ws j).1
   ·rw [ei,Zm];exact h j (by omega)
   ·rw [Zn _ _ ei]
    have hi':i<(drp f ws j).1+1:=hi
    exact ih i (by omega)
abbrev tk2 (r:Rc):Rc:=noH (Kl r)
def tk4 (r:Rc):Rc:=FG (Uw (tk2 r))
def tk5 (r:Rc):Rc:=Iv (tk4 r)
def tkS (r:Rc):Rc:=onH (Kl r)
def Kt (r:Rc):Rc:=Nk (Nm (tk5 r))
def Ke (r:Rc):Rc:=FH (tk5 r) (tkS r)
theorem Lim.tk4 {r:Rc} (h:Lim r):Lim (tk4 r):=
 ⟨h.dn,h.dt,h.dn,h.dt,zle _,fun _i hi=>absurd hi (nlz _),ltr (UZ _ _ _) h.wn,IG _ _ (fun a=>a.size≤100) _ h.wt,h.yn,h.bn,h.bt,h.an,h.fn⟩
theorem UL (r:Rc) (bs:Nat→Sl) (a:Nat):∀ k,(YS r bs a k).an=r.an∧(YS r bs a k).dk.kn=r.dk.kn∧r.dk.n≤(YS r bs a k).dk.n∧(YS r bs a k).num=r.num∧(YS r bs a k).of=r.of∧(YS r bs a k).sf=r.sf∧(YS r bs a k).wn=r.wn
 | 0=>⟨rfl,rfl,lrf _,rfl,rfl,rfl,rfl⟩
 | k+1=>by
  obtain ⟨h1,h2,h3,h4,h5,h6,h7⟩:=UL r bs a k
  exact ⟨h1,h2,ltr h3 (Nat.le_add_right _ _),h4,h5,h6,h7⟩
theorem UY {r:Rc} {x:Int} {mn:Nat} {ms:Nat→Sl} (hl:r.ld=false) (h:(Je r x mn ms).ld=true):(Je r x mn ms).an=0∧(Je r x mn ms).dk.kn=r.dk.kn∧r.dk.n≤(Je r x mn ms).dk.n∧(Je r x mn ms).num=r.num∧(Je r x mn ms).of=r.of∧(Je r x mn ms).sf=r.sf∧(Je r x mn ms).wn=r.wn:=by
 by_cases c:r.of<2*((Zy r.yn r.ys x:Nat):Int)
 ·have e:Je r x mn ms=JF (ZU (XM r (Zy r.yn r.ys x) (ZJ r.yn r.ys x)) (max r.bn mn) (mgS r.bn r.bs mn ms)):=if_pos c
  rw [e]
  exact UL (leadS (ZU (XM r (Zy r.yn r.ys x) (ZJ r.yn r.ys x)) (max r.bn mn) (mgS r.bn r.bs mn ms))) _ _ _
 ·have e:Je r x mn ms=(ZU (XM r (Zy r.yn r.ys x) (ZJ r.yn r.ys x)) (max r.bn mn) (mgS r.bn r.bs mn ms)):=if_neg c
  rw [e] at h
  exact absurd (hl.symm.trans (show r.ld=true from h)) (by simp)
theorem RcG.akTight {X:World} {r:Rc} {p:RcP} (h:RcG X r p) (e:p.A.ac=r.an):AkRm X r p:=⟨Nat.le_of_eq e.symm,fun h0=>e.trans h0,fun h0=>by
 obtain ⟨c,rr,_⟩:=h.at_.o6.row (Nat.pos_of_ne_zero h0)
 rw [e]
 exact ⟨fun j hj=>⟨_,rr.cell j hj⟩,rr.free,rr.lt⟩⟩
theorem tk5_ok {X:World} {r:Rc} {p p':RcP} (hv:TkV r) (hg:RcG X (tk5 r) p') (hc:p.A.ac=r.an) (hac:∀ i,i<r.an→p.AC i=(r.as_ i).n) (hF:PitF (tk4 r) p p'):(tk5 r).ld=true→LdOk X (tk5 r) p':=fun hl=>by
 have l4:=hv.vd.lim.tk4
 have a4:AckW (tk4 r):=⟨hv.aw.ix,hv.aw.asc,hv.aw.fin,hv.aw.fasc,hv.aw.k0,hv.aw.k1,hv.aw.dn⟩
 have hw4:=l4.wn
 by_cases c:(tk4 r).tr=true∧(tk4 r).sf.pr=(tk4 r).bal
 ·unfold PitF at hF
  rw [if_pos c] at hF
  have e:tk5 r=Je (tk4 r) (tk4 r).num (tk4 r).dk.n (tk4 r).dk.s:=if_pos c
  have hl4:(tk4 r).ld=false:=hv.tl c.1
  have fa:=hF hl
  rw [e] at hl
  obtain ⟨h1,h2,h3,h4,h5,h6,h7⟩:=UY hl4 hl
  have lp:=l4.prom (x:=(tk4 r).num) (show (tk4 r).yn≤10 from hv.vd.yn) l4.dn l4.dt
  rw [←e] at h1 h2 h3 h4 h5 h6 h7 lp
  refine ⟨⟨by rw [h1];exact zle _,fun _=>fa.2,fun h0=>absurd h1 h0⟩,fun i hi=>by rw [h1] at hi;exact absurd hi (nlz _),⟨fun i hi=>by rw [h1] at hi;exact absurd hi (nlz _),fun i j _ hj=>by rw [h1] at hj;exact absurd hj (nlz _),fun i hi=>by rw [h1] at hi;exact absurd hi (nlz _),fun i hi=>by rw [h1] at hi;exact absurd hi (nlz _),by rw [h2];exact a4.k0,by rw [h2];exact Int.le_trans a4.k1 (Int.ofNat_le.2 h3),lp.dn⟩,by rw [h4];exact hv.nu,by rw [h5];exact hv.of,lp.sn,by rw [h7];omega⟩
 ·unfold PitF at hF
  rw [if_neg c] at hF
  have e:tk5 r=tk4 r:=if_neg c
  rw [e] at hg ⊢
  subst hF
  exact ⟨hg.akTight hc,hac,a4,hv.nu,hv.of,l4.sn,by omega⟩
theorem PN (bal:Int) (ws:Nat→ByteArray) (r:Rc):∀ j,(brR bal ws j r).num=r.num
 | 0=>rfl
 | j+1=>by
  have h:=PN bal ws r j
  rw [brR]
  split
  ·exact h
  ·exact h
theorem NZ (r:Rc):(Nm r).num=r.num∧(Nm r).of=r.of:=by
 unfold Nm
 split
 ·have e:=Jf r r.sf.n
  have n1:(Ja r).num=r.num:=by show (Xs r r.sf.n).num=_;rw [e]
  have o1:(Ja r).of=r.of:=by show (Xs r r.sf.n).of=_;rw [e]
  exact ⟨(PN _ _ _ _).trans n1,(NH _ _ _ _).2.2.trans o1⟩
 ·exact ⟨rfl,rfl⟩
theorem Ff (r:Rc) (x:Int) (mn:Nat) (ms:Nat→Sl):(Je r x mn ms).of=r.of:=by
 unfold Je
 split
 ·exact (UL (leadS (ZU (XM r (Zy r.yn r.ys x) (ZJ r.yn r.ys x)) (max r.bn mn) (mgS r.bn r.bs mn ms))) _ _ _).2.2.2.2.1
 ·rfl
theorem Ns (r:Rc):(tk5 r).num=r.num∧(tk5 r).of=r.of:=by
 unfold tk5 Iv
 split
 ·exact ⟨NW _ _ _ _,Ff _ _ _ _⟩
 ·exact ⟨rfl,rfl⟩
def Pd (i:Nat):FuncId:=match i with|0=>106|1=>107|2=>108|3=>109|4=>110|5=>111|_=>112
set_option maxRecDepth 100000 in
theorem tikE (T:Nat):∀ i,i<7→∀ X,(callFunc (Pd i) #[.pointer (some ⟨T,0,none⟩)]).run Tryz.prog X=.ok (.enter (Pd i) #[.pointer (some ⟨T,0,none⟩)]) X:=fun i hi X=>by
 rcases (show i=0∨i=1∨i=2∨i=3∨i=4∨i=5∨i=6 by omega) with rfl|rfl|rfl|rfl|rfl|rfl|rfl
 ·exact (by kernel_rfl:(callFunc 106 #[.pointer (some ⟨T,0,none⟩)]).run Tryz.prog X=.ok (.enter 106 #[.pointer (some ⟨T,0,none⟩)]) X)
 ·exact (by kernel_rfl:(callFunc 107 #[.pointer (some ⟨T,0,none⟩)]).run Tryz.prog X=.ok (.enter 107 #[.pointer (some ⟨T,0,none⟩)]) X)
 ·exact (by kernel_rfl:(callFunc 108 #[.pointer (some ⟨T,0,none⟩)]).run Tryz.prog X=.ok (.enter 108 #[.pointer (some ⟨T,0,none⟩)]) X)
 ·exact (by kernel_rfl:(callFunc 109 #[.pointer (some ⟨T,0,none⟩)]).run Tryz.prog X=.ok (.enter 109 #[.pointer (some ⟨T,0,none⟩)]) X)
 ·exact (by kernel_rfl:(callFunc 110 #[.pointer (some ⟨T,0,none⟩)]).run Tryz.prog X=.ok (.enter 110 #[.pointer (some ⟨T,0,none⟩)]) X)
 ·exact (by kernel_rfl:(callFunc 111 #[.pointer (some ⟨T,0,none⟩)]).run Tryz.prog X=.ok (.enter 111 #[.pointer (some ⟨T,0,none⟩)]) X)
 ·exact (by kernel_rfl:(callFunc 112 #[.pointer (some ⟨T,0,none⟩)]).run Tryz.prog X=.ok (.enter 112 #[.pointer (some ⟨T,0,none⟩)]) X)
theorem Pe (T B:Nat) (r:Rc) (p:RcP) (_w W:World) (tx:Bx W T #[.pointer (some ⟨B,0,none⟩),.slice none 0 0]) (bx:Bx W B (rcC r p.A)) (hg:RcG W r p) (hap:∀ k,rbs p r k→k≠T∧k≠B) (hne:T≠B) (ht:JB r p.A) (hac:∀ i,i<r.an→p.AC i=(r.as_ i).n) (hb0:r.bn=0→p.A.ba=none) (hv:TkV r)
  (g:Nat) (hgl:g<W.1.size) (hgn:g≠T∧g≠B∧¬rbs p r g) (hrow:∀ i,i<7→W.cell? ⟨g,i,none⟩=some (.func (.func (Pd i)) #[] #[])) :
  Calls Tryz.prog 105 #[.pointer (some ⟨T,0,none⟩),.slice (some ⟨g,0,none⟩) 7 7] W fun e w'=>e=.returned (.tuple #[])∧∃ p' ps',TkZ (fun q=>q=T∨q=B∨rbs p r q) W T B w' (Kt r) p' (Ke r) ps':=by
 have hvd:=hv.vd
 have lm:=hvd.lim
 have keepRow:∀ X,FrP (fun q=>q=T∨q=B∨rbs p r q) W X→g<X.1.size∧∀ i,i<7→X.cell? ⟨g,i,none⟩=some (.func (.func (Pd i)) #[] #[]):=fun X hf=>⟨ltl hgl hf.size,fun i hi=>(hf.cell (p:=⟨g,i,none⟩) hgl (fun e=>by
  rcases e with e|e|e
  ·exact hgn.1 e
  ·exact hgn.2.1 e
  ·exact hgn.2.2 e)).trans (hrow i hi)⟩
 have lT:=tx.lt
 have lB:=bx.lt
 refine (FI T g 7 Pd W (by omega) (tikE T) (fun j X=>FrP (fun q=>q=T∨q=B∨rbs p r q) W X∧(match j with
   | 0=>Bx X T #[.pointer (some ⟨B,0,none⟩),.slice none 0 0]∧Bx X B (rcC r p.A)∧RcG X r p
   | 1=>∃ ad b,Bx X T #[.pointer (some ⟨B,0,none⟩),.slice none 0 0]∧Bx X B (rcC (Kl r) (Yg p ad r.dk.n b).A)∧RcG X (Kl r) (Yg p ad r.dk.n b)∧(r.dk.n≠0→W.1.size≤b)
   | 2=>∃ ad b,TkZ (fun q=>q=T∨q=B∨rbs p r q) W T B X (tk2 r) (UM (Yg p ad r.dk.n b)) (tkS r) (Nw (Yg p ad r.dk.n b))
   | 3=>∃ ad b,TkZ (fun q=>q=T∨q=B∨rbs p r q) W T B X (Uw (tk2 r)) (UM (Yg p ad r.dk.n b)) (tkS r) (Nw (Yg p ad r.dk.n b))
   | 4=>∃ ad b,TkZ (fun q=>q=T∨q=B∨rbs p r q) W T B X (tk4 r) (UM (Yg p ad r.dk.n b)) (tkS r) (Nw (Yg p ad r.dk.n b))
   | 5=>∃ p' ps',TkZ (fun q=>q=T∨q=B∨rbs p r q) W T B X (tk5 r) p' (tkS r) ps'∧((tk5 r).ld=true→LdOk X (tk5 r) p')
   | 6=>∃ p' ps',TkZ (fun q=>q=T∨q=B∨rbs p r q) W T B X (Nm (tk5 r)) p' (Ke r) ps'
   | _=>∃ p' ps',TkZ (fun q=>q=T∨q=B∨rbs p r q) W T B X (Kt r) p' (Ke r) ps')) ⟨FrP.refl _ _,tx,bx,hg⟩ (fun j X _ hI=>keepRow X hI.1) (fun j X hj hI=>?_)).mono ?_
 ·obtain ⟨hf,hI⟩:=hI
  have hz:=hf.size
  rcases (show j=0∨j=1∨j=2∨j=3∨j=4∨j=5∨j=6 by omega) with rfl|rfl|rfl|rfl|rfl|rfl|rfl
  ·obtain ⟨t1,b1,g1⟩:=hI
   refine (OD T B r p _ X t1 b1 g1 hap hne (by have:=lm.dn;omega)).mono fun e w' hr=>?_
   obtain ⟨he,ad,b,k1,k2,k3,k4,k5,_⟩:=hr
   exact ⟨he,hf.trans (k4.mono (fun q hq=>Or.inr (Or.inl hq))),ad,b,k1,k2,k3,fun h0=>ltr hz (k5 h0)⟩
  ·obtain ⟨ad,b,t1,b1,g1,hbb⟩:=hI
   have old:∀ j k,j<7→rb (Yg p ad r.dk.n b) (Kl r) j k→(j=0∧W.1.size≤k)∨rbs p r k:=fun j k hj hk=>by
    rcases U5 hj hk with ⟨e,h0,rfl⟩|⟨_,h1⟩
    ·exact Or.inl ⟨e,hbb h0⟩
    ·exact Or.inr ⟨j,hj,h1⟩
   refine (Oi T B (Kl r) (Yg p ad r.dk.n b) _ X t1 b1 g1 (fun k ⟨j,hj,hk⟩=>by
    rcases old j k hj hk with h|h
    ·exact ⟨by omega,by omega⟩
    ·exact hap k h) hne).mono fun e w' hr=>?_
   obtain ⟨he,k1,k2⟩:=hr
   have F2:=hf.trans (k2.mono (fun q hq=>(by rcases hq with hq|hq;exact Or.inl hq;exact Or.inr (Or.inl hq):q=T∨q=B∨rbs p r q)))
   refine ⟨he,F2,ad,b,k1,F2,fun q ⟨j,hj,hk⟩=>?_,fun q ⟨j,hj,hk⟩=>?_⟩
   ·rcases old j q hj (Ne hj hk).2 with h|h
    ·exact Or.inr h.2
    ·exact Or.inl (Or.inr (Or.inr h))
   ·rcases old 2 q (by omega) (Nd hj hk).2 with h|h
    ·exact Or.inr h.2
    ·exact Or.inl (Or.inr (Or.inr h))
  ·obtain ⟨ad,b,z⟩:=hI
   refine (II T B (tk2 r) (UM (Yg p ad r.dk.n b)) (tkS r) (Nw (Yg p ad r.dk.n b)) X z.tk hvd.ack.k0 hvd.ack.k1 lm.dn (by have:=lm.wn;show r.wn≤1000;omega) (Nat.le_of_eq ht.wc.symm) ht.da).mono fun e w' hr=>?_
   obtain ⟨he,k1,k2⟩:=hr
   obtain ⟨_,p2,z2,e2⟩:=z.stepR (F:=fun q=>q=UM (Yg p ad r.dk.n b)) (Or.inr (Or.inl rfl)) (⟨he,UM (Yg p ad r.dk.n b),k1,k2,fun q ⟨j,hj,hk⟩=>Or.inl ⟨j,hj,Oo (UZ _ _ _) hj hk⟩,rfl⟩:TkR (fun q=>q=UM (Yg p ad r.dk.n b)) T B (tk2 r) (UM (Yg p ad r.dk.n b)) (tkS r) (Nw (Yg p ad r.dk.n b)) (Uw (tk2 r)) X e w')
   subst e2
   exact ⟨he,z2.fr,ad,b,z2⟩
  ·obtain ⟨ad,b,z⟩:=hI
   refine (ND T B (Uw (tk2 r)) (UM (Yg p ad r.dk.n b)) (tkS r) (Nw (Yg p ad r.dk.n b)) X z.tk hv.hd.1 hv.hd.2).mono fun e w' hr=>?_
   obtain ⟨he,k1,k2⟩:=hr
   obtain ⟨_,p2,z2,e2⟩:=z.stepR (F:=fun q=>q=UM (Yg p ad r.dk.n b)) (Or.inr (Or.inl rfl)) (⟨he,UM (Yg p ad r.dk.n b),k1,k2.mono (fun q hq=>Or.inl hq),fun q hq=>Or.inl hq,rfl⟩:TkR (fun q=>q=UM (Yg p ad r.dk.n b)) T B (Uw (tk2 r)) (UM (Yg p ad r.dk.n b)) (tkS r) (Nw (Yg p ad r.dk.n b)) (tk4 r) X e w')
   subst e2
   exact ⟨he,z2.fr,ad,b,z2⟩
  ·obtain ⟨ad,b,z⟩:=hI
   refine (Nf T B (tk4 r) (UM (Yg p ad r.dk.n b)) (tkS r) (Nw (Yg p ad r.dk.n b)) X z.tk ht.yc ht.bc hb0 ht.da (by have:=hvd.yn;show r.yn≤999;omega) hvd.yasc lm.bn hvd.ack.k0 lm.dn hv.tl).mono fun e w' hr=>?_
   obtain ⟨he,p2,z2,e2⟩:=z.stepR (Or.inr (Or.inl rfl)) hr
   exact ⟨he,z2.fr,p2,_,z2,tk5_ok (p:=UM (Yg p ad r.dk.n b)) hv z2.tk.g ht.ac hac e2⟩
  ·obtain ⟨p1,ps1,z,hl⟩:=hI
   refine (goOn_do _ W T B (tk5 r) p1 (tkS r) ps1 X z (Or.inl rfl) (Or.inr (Or.inl rfl)) hl (by have:=lm.hn;show r.hn≤1000;omega)).mono fun e w' hr=>?_
   obtain ⟨he,p2,ps2,z2⟩:=hr
   exact ⟨he,z2.fr,p2,ps2,z2⟩
  ·obtain ⟨p1,ps1,z⟩:=hI
   have hk:=NZ (tk5 r)
   have h5:=Ns r
   refine (Ie T B (Nm (tk5 r)) p1 (Ke r) ps1 X z.tk (by rw [hk.1,h5.1];have:=hv.nu;omega) (by rw [hk.1,h5.1];have:=hv.nu;omega) (by rw [hk.2,h5.2];have:=hv.of;omega) (by rw [hk.2,h5.2];have:=hv.of;omega)).mono fun e w' hr=>?_
   obtain ⟨he,p2,z2,_⟩:=z.stepR (Or.inr (Or.inl rfl)) hr
   exact ⟨he,z2.fr,p2,ps1,z2⟩
 ·rintro e w' ⟨he,_,p',ps',z⟩
  exact ⟨he,p',ps',z⟩
set_option maxRecDepth 100000 in
theorem Oc (B:Nat) (r:Rc) (p:RcP) (w:World) (hbx:Bx w B (rcC r p.A)) (hg:RcG w r p) (hB:∀ q,rbs p r q→q≠B) (ht:JB r p.A) (hac:∀ i,i<r.an→p.AC i=(r.as_ i).n) (hb0:r.bn=0→p.A.ba=none) (hv:TkV r) :
  Calls Tryz.prog 49 #[.pointer (some ⟨B,0,none⟩)] w fun e w'=>∃ p' ps,e=.returned (.slice ps.A.ha (Ke r).hn ps.A.hc)∧Bx w' B (rcC (Kt r) p'.A)∧RcG w' (Kt r) p'∧RcG w' (Ke r) ps∧(∀ k,rbs p' (Kt r) k→k≠B∧¬rbs ps (Ke r) k)∧(∀ k,rbs ps (Ke r) k→k≠B)∧FrP (fun q=>q=B∨rbs p r q) w w'∧(∀ q,rbs p' (Kt r) q→rbs p r q∨w.1.size≤q)∧(∀ q,rbs ps (Ke r) q→rbs p r q∨w.1.size≤q):=by
 have HBX:=hid hbx
 have HG:=hid hg
 have HB:=hid hB
 have HL:=hid hg.at_.lt
 have lB:=hbx.lt
 have HT:=hid ht
 have HAC:=hid hac
 have HB0:=hid hb0
 have HV:=hid hv
 have ST:=hid (fun (W:World) (tx:Bx W w.1.size #[.pointer (some ⟨B,0,none⟩),.slice none 0 0]) (hb:Below w.1.size w W) (hgl:w.1.size+1<W.1.size) (hrow:∀ i,i<7→W.cell? ⟨w.1.size+1,i,none⟩=some (.func (.func (Pd i)) #[] #[]))=>Pe w.1.size B r p w W tx (hbx.below hb lB) (hg.grow hb) (fun k hk=>⟨by have:=hg.at_.lt k hk;omega,hB k hk⟩) (by omega) ht hac hb0 hv (w.1.size+1) hgl ⟨by omega,by omega,fun e=>by have:=hg.at_.lt _ e;omega⟩ hrow)
 clear hbx hg hB ht hac hb0 hv
 have hB0:Below w.1.size w ((w.alloc (.cells #[.pointer (some ⟨B,0,none⟩),.slice none 0 0] 122)).alloc (.cells #[.func (.func 106) #[] #[],.func (.func 107) #[] #[],.func (.func 108) #[] #[],.func (.func 109) #[] #[],.func (.func 110) #[] #[],.func (.func 111) #[] #[],.func (.func 112) #[] #[]] 146)):=(Zb _ _).alloc (by simp) _
 have SP:=hid (ST.out ((w.alloc (.cells #[.pointer (some ⟨B,0,none⟩),.slice none 0 0] 122)).alloc (.cells #[.func (.func 106) #[] #[],.func (.func 107) #[] #[],.func (.func 108) #[] #[],.func (.func 109) #[] #[],.func (.func 110) #[] #[],.func (.func 111) #[] #[],.func (.func 112) #[] #[]] 146)) (Bx.new2 w #[.pointer (some ⟨B,0,none⟩),.slice none 0 0] #[.func (.func 106) #[] #[],.func (.func 107) #[] #[],.func (.func 108) #[] #[],.func (.func 109) #[] #[],.func (.func 110) #[] #[],.func (.func 111) #[] #[],.func (.func 112) #[] #[]] 122 146).1 hB0 (by simp) (fun i hi=>by
  rcases (show i=0∨i=1∨i=2∨i=3∨i=4∨i=5∨i=6 by omega) with rfl|rfl|rfl|rfl|rfl|rfl|rfl<;>simp [Pd]))
 have HB0W:=hid hB0
 clear hB0 ST
 go_enter Tryz.func49,Tryz.ntmps49
 go_wp2_with (go_at_call 105;go_must (refine SP.out.mono ?_;rintro e w2 ⟨rfl,p',ps',z⟩;have Z1:=hid z;have c1:w2.cell? ⟨w.1.size,1,none⟩=some (.slice ps'.A.ha (Ke r).hn ps'.A.hc):=z.tk.tx.cell 1;have hlt:w.1.size<w2.1.size:=z.tk.tx.lt;clear z))
 go_ret
 have zz:=HB0W.out.size
 have ap:=Z1.out.tk.ap
 have sp:=Z1.out.tk.sp
 refine ⟨p',ps',rfl,Z1.out.tk.bx,Z1.out.tk.g,Z1.out.tk.sg,fun k hk=>⟨(ap k hk).2.1,(ap k hk).2.2⟩,fun k hk=>(sp k hk).2,(FrP.of_below HB0W.out).trans2 Z1.out.fr (fun q hq e=>?_),fun q hq=>?_,fun q hq=>?_⟩
 ·rcases e with e|e|e
  ·omega
  ·exact Or.inl e
  ·exact Or.inr e
 ·rcases Z1.out.n1 q hq with (e|e|e)|e
  ·exact absurd e (ap q hq).1
  ·exact absurd e (ap q hq).2.1
  ·exact Or.inl e
  ·exact Or.inr (by omega)
 ·rcases Z1.out.n2 q hq with (e|e|e)|e
  ·exact absurd e (sp q hq).1
  ·exact absurd e (sp q hq).2
  ·exact Or.inl e
  ·exact Or.inr (by omega)
end Go.Proofs.YtokkbdlofbdljaaGreat
