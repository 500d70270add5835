import Derived.Test.YtllmmkchokkaaaaGreatDoorPk05
import Derived.Test.YtllmmkchokkaaaaGreatDoorPk10
import Derived.Maps.AppendAt
set_option maxRecDepth 100000
set_option maxHeartbeats 2000000
namespace Go.Proofs.YtllmmkchokkaaaaGreatDoor
open Go.RowKit Go.Proofs.Tryz
theorem Cn{w w':World}{row:Option Nat}(h:w.grownBy w' row):AP (λq=>row=some q) w w':=⟨h.os,h.tape,h.output,h.size,λk hk ho=>h.block k hk (λe=>ho e.symm)⟩
theorem CB{w w':World}{base e z n:Nat}{v:Value}{xs:List Value}{P:Nat->Prop}(h:w.ownsRow base e z v n xs)(hf:AP P w w')(hp:∀g,v.ownBlock=some g->¬P g):w'.ownsRow base e z v n xs:=by
 refine⟨h.1,?_⟩;rcases h.2 with h0|⟨g,cap,cur,rfl,h1,h2,h3⟩;.exact AD h0
 .exact Ax ⟨g,cap,cur,rfl,h1,(hf.block g (Cj.1 h2).1 (hp g rfl)).trans h2,h3⟩
theorem AV.one{w:World}{lo hi:Nat}{ad:OA}{n:Nat}{s:Nat->ByteArray}(h:AV w lo hi ad n s):∃b,AV w b (b+1) ad n s/\(n≠0->lo<=b/\b<hi):=by
 by_cases h0:n=0;.subst h0;exact⟨0,AV.zero,λh=>absurd rfl h⟩
 .obtain⟨b,off,e1,e2,e3,_⟩:=h 0 Za;refine⟨b,λi hi=>?_,λ_=>⟨e2,e3⟩⟩;obtain⟨b',off',f1,f2,f3,f4⟩:=h i hi;rw[e1]at f1;cases f1;exact⟨b,off,e1,Aw _,Bp _,f4⟩
theorem EF (w:World)(l:List Value)(t:TypeId):∀j u,l[j]?=some u->(w.alloc (.cells l.toArray t)).cell? ((⟨w.1.size,0,none⟩:Addr).add j)=some u:=by intro j u h;rw[show((⟨w.1.size,0,none⟩:Addr).add j)=⟨w.1.size,j,none⟩by unfold Addr.add;split<;>simp_all,At];simpa using h
def R0 (c:Nat->Value)(m:Nat)(news:List Value):Nat->Value:=λj=>if j<m then c j else news.getD (j-m) (.i 0)
theorem Nb (c:Nat->Value)(m:Nat)(news:List Value):R0 c m news m=news.getD 0 (.i 0):=by unfold R0;rw[if_neg (Bt _),G2]
theorem Dl (c:Nat->Value)(m:Nat)(news:List Value)(j:Nat):R0 c m news (m+j)=news.getD j (.i 0):=by unfold R0;rw[if_neg Za,Ow]
theorem Hd (c:Nat->Value)(m:Nat)(news:List Value):AI m c++news=AI (m+news.length) (R0 c m news):=by
 apply List.ext_getElem;.simp[AI]
 .intro j h1 h2;have hj:j<m+news.length:=by simpa[AI]using h2
  rw[Dd,List.getElem_append];unfold R0;by_cases h:j<m;.rw[dif_pos (by rw[Bl];exact h),Dd,if_pos h]
  .rw[dif_neg (by rw[Bl];exact h),if_neg h];simp only[Bl];rw[List.getD_eq_getElem?_getD,BK Za];rfl
theorem JH{w:World}{base e z n g cap:Nat}{c:Nat->Value}(h:w.ownsRow base e z (.l (some ⟨g,0,none⟩) n cap) n (AI (n*z) c)):AH w g (n*z) c:=by refine⟨(h.lt g rfl).2,λj=>h.frozenAt j,λj hj=>?_⟩;rw[h.cellAt j hj,BK (by rw[Bl];exact hj),Dd]
structure Ng (w:World)(base:Nat)(v:Value)(k:Nat)(x:Nat->Ob)(A:Nat->Option Addr)(C hb:Nat->Nat):Prop where
 row:∃c,w.ownsRow base 118 7 v k (AI (k*7) c)/\∀i,i<k->RE c i (x i) (A i) (C i)hold:∀i,i<k->AV w (hb i) (hb i+1) (A i) (x i).hn (x i).hs
 hlt:∀i,i<k->(x i).hn≠0->base<=hb i/\hb i<w.1.size
 ne:∀i,i<k->(x i).hn≠0->v.ownBlock≠some (hb i)inj:∀i j,i<k->j<k->(x i).hn≠0->(x j).hn≠0->hb i=hb j->i=j
theorem Ng.fr{w:World}{base:Nat}{v:Value}{k:Nat}{x:Nat->Ob}{A:Nat->Option Addr}{C hb:Nat->Nat}{w':World}{P:Nat->Prop}(h:Ng w base v k x A C hb)(hf:AP P w w')(hp:∀q,base<=q->q<w.1.size->¬P q):Ng w' base v k x A C hb:=⟨by obtain⟨c,r,e⟩:=h.row;exact⟨c,CB r hf (λg hg=>hp g (r.lt g hg).1 (r.lt g hg).2),e⟩,λi hi=>(h.hold i hi).frP hf (λh0=>⟨hp _ (h.hlt i hi h0).1 (h.hlt i hi h0).2,(h.hlt i hi h0).2⟩),λi hi h0=>⟨(h.hlt i hi h0).1,Aa (h.hlt i hi h0).2 hf.size⟩,h.ne,h.inj⟩
theorem Ng.grow{w:World}{base:Nat}{v:Value}{k:Nat}{x:Nat->Ob}{A:Nat->Option Addr}{C hb:Nat->Nat}{w':World}(h:Ng w base v k x A C hb)(hf:Below w.1.size w w'):Ng w' base v k x A C hb:=h.fr (Aq (P:=λ_=>False) hf) (λ_ _ _ h=>h)
theorem cX{P:Prop}(h:P:=by
  by_cases e1:i=k
  .by_cases e2:j=k;.rw[e1,e2]
   .subst e1;rw[BT,Cr _ _ e2]at e;exact absurd e.symm (hd j Za h1 h0)
  .by_cases e2:j=k;.subst e2;rw[BT,Cr _ _ e1]at e;exact absurd e (hd i Za h0 h1)
   .rw[Cr _ _ e1,Cr _ _ e2]at e;exact h.inj i j Za Za h0 h1 e):P:=h
theorem bI{P:Prop}(h:P:=by
  by_cases e:i=k
  .subst e;rw[BT];rcases hw with hw|hw;.rw[hw];exact hv h0
   .rw[hw];intro q;cases q;exact Bt _ (hl h0).2
  .rw[Cr _ _ e];rcases hw with hw|hw;.rw[hw];exact h.ne i Za h0
   .rw[hw];intro q;have h2:=(h.hlt i Za h0).2;injection q with q;omega):P:=h
theorem dW{P:Prop}(h:P:=by
  by_cases e:i=k;.subst e;rw[BT,BT];exact hs.frP F (λh0=>⟨hv h0,(hl h0).2⟩)
  .rw[Cr _ _ e,Cr _ _ e];exact(h.hold i Za).frP F (λh0=>⟨h.ne i Za h0,(h.hlt i Za h0).2⟩)):P:=h
theorem dZ{P:Prop}(h:P:=by
  by_cases e:i=k;.subst e;rw[BT];exact⟨(hl h0).1,Aa (hl h0).2 hg.size⟩
  .rw[Cr _ _ e];exact⟨(h.hlt i Za h0).1,Aa (h.hlt i Za h0).2 hg.size⟩):P:=h
theorem Ng.app{w:World}{base:Nat}{v:Value}{k:Nat}{x:Nat->Ob}{A:Nat->Option Addr}{C hb:Nat->Nat}{w':World}{v':Value}{c:Nat->Value}{ad':OA}{cap' b':Nat}(h:Ng w base v k x A C hb)(hat:∀i,i<k->RE c i (x i) (A i) (C i))(ho:w'.ownsRow base 118 7 v' (k+1) (AI (k*7) c++[.s (x k).kind,.s (x k).name,.i (x k).ver,.i (x k).born,.s (x k).text,.bool (x k).ending,.l ad' (x k).hn cap']))(hg:w.grownBy w' v.ownBlock)(hw:v'.ownBlock=v.ownBlock\/v'.ownBlock=some w.1.size)(hs:AV w b' (b'+1) ad' (x k).hn (x k).hs)(hl:(x k).hn≠0->base<=b'/\b'<w.1.size)(hv:(x k).hn≠0->v.ownBlock≠some b')(hd:∀i,i<k->(x i).hn≠0->(x k).hn≠0->hb i≠b'):Ng w' base v' (k+1) x (EQ A k ad') (EQ C k cap') (EQ hb k b'):=by
 have F:=Cn hg;refine⟨⟨R0 c (k*7) [.s (x k).kind,.s (x k).name,.i (x k).ver,.i (x k).born,.s (x k).text,.bool (x k).ending,.l ad' (x k).hn cap'],?_,λi hi=>?_⟩,λi hi=>?_,λi hi h0=>?_,λi hi h0=>?_,λi j hi hj h0 h1 e=>?_⟩
 .rw[Hd]at ho;have e:k*7+([.s (x k).kind,.s (x k).name,.i (x k).ver,.i (x k).born,.s (x k).text,.bool (x k).ending,.l ad' (x k).hn cap']:List Value).length=(k+1)*7:=by show k*7+7=_;omega
  rw[e]at ho;exact ho
 .by_cases e:i=k;.subst e;rw[BT,BT];exact⟨Nb _ _ _,Dl _ _ _ 1,Dl _ _ _ 2,Dl _ _ _ 3,Dl _ _ _ 4,Dl _ _ _ 5,Dl _ _ _ 6⟩
  .rw[Cr _ _ e,Cr _ _ e];obtain⟨a0,a1,a2,a3,a4,a5,a6⟩:=hat i Za;exact⟨(if_pos Za).trans a0,(if_pos Za).trans a1,(if_pos Za).trans a2,(if_pos Za).trans a3,(if_pos Za).trans a4,(if_pos Za).trans a5,(if_pos Za).trans a6⟩
 .exact dW
 .exact dZ
 .exact bI
 .exact cX
theorem Ng.done{w:World}{base:Nat}{v:Value}{k:Nat}{x:Nat->Ob}{A:Nat->Option Addr}{C hb:Nat->Nat}(h:Ng w base v k x A C hb):∃ad cap g,v=.l ad k cap/\D5 w ad g k x A C hb/\∀q,GA g k (λi=>(x i).hn) hb q->base<=q:=by
 obtain⟨c,r,hat⟩:=h.row;rcases r.2 with⟨rfl,rfl⟩|⟨g,cap,cur,rfl,h1,_⟩;.exact⟨none,0,0,rfl,⟨λh0=>absurd h0 (Bt _),λh0=>absurd h0 (Bt _),λi hi=>absurd hi (Al _),λi hi=>absurd hi (Al _),⟨λi hi=>absurd hi (Al _),λi j hi=>absurd hi (Al _)⟩⟩,λq hq=>by
   rcases hq with⟨h0,_⟩|⟨i,hi,_⟩;.exact absurd h0 (Bt _)
   .exact absurd hi (Al _)⟩
 .refine⟨_,cap,g,rfl,⟨λ_=>rfl,λ_=>⟨c,JH r,hat⟩,h.hold,λi hi h0=>(h.hlt i hi h0).2,⟨λi hi h0 e=>h.ne i hi h0 (by rw[e];rfl),h.inj⟩⟩,λq hq=>?_⟩;rcases hq with⟨h0,rfl⟩|⟨i,hi,h0,rfl⟩;.exact h1
  .exact(h.hlt i hi h0).1
structure Nv (w:World)(base:Nat)(v:Value)(k:Nat)(x:Nat->Ch)(A:Nat->Option Addr)(C hb:Nat->Nat):Prop where
 row:∃c,w.ownsRow base 120 9 v k (AI (k*9) c)/\∀i,i<k->LB c i (x i) (A i) (C i)hold:∀i,i<k->AV w (hb i) (hb i+1) (A i) (x i).ob.hn (x i).ob.hs
 hlt:∀i,i<k->(x i).ob.hn≠0->base<=hb i/\hb i<w.1.size
 ne:∀i,i<k->(x i).ob.hn≠0->v.ownBlock≠some (hb i)inj:∀i j,i<k->j<k->(x i).ob.hn≠0->(x j).ob.hn≠0->hb i=hb j->i=j
theorem Nv.fr{w:World}{base:Nat}{v:Value}{k:Nat}{x:Nat->Ch}{A:Nat->Option Addr}{C hb:Nat->Nat}{w':World}{P:Nat->Prop}(h:Nv w base v k x A C hb)(hf:AP P w w')(hp:∀q,base<=q->q<w.1.size->¬P q):Nv w' base v k x A C hb:=⟨by obtain⟨c,r,e⟩:=h.row;exact⟨c,CB r hf (λg hg=>hp g (r.lt g hg).1 (r.lt g hg).2),e⟩,λi hi=>(h.hold i hi).frP hf (λh0=>⟨hp _ (h.hlt i hi h0).1 (h.hlt i hi h0).2,(h.hlt i hi h0).2⟩),λi hi h0=>⟨(h.hlt i hi h0).1,Aa (h.hlt i hi h0).2 hf.size⟩,h.ne,h.inj⟩
theorem Nv.grow{w:World}{base:Nat}{v:Value}{k:Nat}{x:Nat->Ch}{A:Nat->Option Addr}{C hb:Nat->Nat}{w':World}(h:Nv w base v k x A C hb)(hf:Below w.1.size w w'):Nv w' base v k x A C hb:=h.fr (Aq (P:=λ_=>False) hf) (λ_ _ _ h=>h)
theorem Nv.app{w:World}{base:Nat}{v:Value}{k:Nat}{x:Nat->Ch}{A:Nat->Option Addr}{C hb:Nat->Nat}{w':World}{v':Value}{c:Nat->Value}{ad':OA}{cap' b':Nat}(h:Nv w base v k x A C hb)(hat:∀i,i<k->LB c i (x i) (A i) (C i))(ho:w'.ownsRow base 120 9 v' (k+1) (AI (k*9) c++[.i (x k).ver,.bool (x k).gone,.s (x k).ob.kind,.s (x k).ob.name,.i (x k).ob.ver,.i (x k).ob.born,.s (x k).ob.text,.bool (x k).ob.ending,.l ad' (x k).ob.hn cap']))(hg:w.grownBy w' v.ownBlock)(hw:v'.ownBlock=v.ownBlock\/v'.ownBlock=some w.1.size)(hs:AV w b' (b'+1) ad' (x k).ob.hn (x k).ob.hs)(hl:(x k).ob.hn≠0->base<=b'/\b'<w.1.size)(hv:(x k).ob.hn≠0->v.ownBlock≠some b')(hd:∀i,i<k->(x i).ob.hn≠0->(x k).ob.hn≠0->hb i≠b'):Nv w' base v' (k+1) x (EQ A k ad') (EQ C k cap') (EQ hb k b'):=by
 have F:=Cn hg;refine⟨⟨R0 c (k*9) [.i (x k).ver,.bool (x k).gone,.s (x k).ob.kind,.s (x k).ob.name,.i (x k).ob.ver,.i (x k).ob.born,.s (x k).ob.text,.bool (x k).ob.ending,.l ad' (x k).ob.hn cap'],?_,λi hi=>?_⟩,λi hi=>?_,λi hi h0=>?_,λi hi h0=>?_,λi j hi hj h0 h1 e=>?_⟩
 .rw[Hd]at ho;have e:k*9+([.i (x k).ver,.bool (x k).gone,.s (x k).ob.kind,.s (x k).ob.name,.i (x k).ob.ver,.i (x k).ob.born,.s (x k).ob.text,.bool (x k).ob.ending,.l ad' (x k).ob.hn cap']:List Value).length=(k+1)*9:=by show k*9+9=_;omega
  rw[e]at ho;exact ho
 .by_cases e:i=k;.subst e;rw[BT,BT];exact⟨Nb _ _ _,Dl _ _ _ 1,Dl _ _ _ 2,Dl _ _ _ 3,Dl _ _ _ 4,Dl _ _ _ 5,Dl _ _ _ 6,Dl _ _ _ 7,Dl _ _ _ 8⟩
  .rw[Cr _ _ e,Cr _ _ e];obtain⟨a0,a1,a2,a3,a4,a5,a6,a7,a8⟩:=hat i Za;exact⟨(if_pos Za).trans a0,(if_pos Za).trans a1,(if_pos Za).trans a2,(if_pos Za).trans a3,(if_pos Za).trans a4,(if_pos Za).trans a5,(if_pos Za).trans a6,(if_pos Za).trans a7,(if_pos Za).trans a8⟩
 .exact dW
 .exact dZ
 .exact bI
 .exact cX
theorem Nv.done{w:World}{base:Nat}{v:Value}{k:Nat}{x:Nat->Ch}{A:Nat->Option Addr}{C hb:Nat->Nat}(h:Nv w base v k x A C hb):∃ad cap g,v=.l ad k cap/\k<=cap/\EG w ad g k x A C hb/\∀q,GA g k (λi=>(x i).ob.hn) hb q->base<=q:=by
 obtain⟨c,r,hat⟩:=h.row;rcases r.2 with⟨rfl,rfl⟩|⟨g,cap,cur,rfl,h1,_,hcap,_⟩;.exact⟨none,0,0,rfl,Aw _,⟨λh0=>absurd h0 (Bt _),λh0=>absurd h0 (Bt _),λi hi=>absurd hi (Al _),λi hi=>absurd hi (Al _),⟨λi hi=>absurd hi (Al _),λi j hi=>absurd hi (Al _)⟩⟩,λq hq=>by
   rcases hq with⟨h0,_⟩|⟨i,hi,_⟩;.exact absurd h0 (Bt _)
   .exact absurd hi (Al _)⟩
 .refine⟨_,cap,g,rfl,hcap,⟨λ_=>rfl,λ_=>⟨c,JH r,hat⟩,h.hold,λi hi h0=>(h.hlt i hi h0).2,⟨λi hi h0 e=>h.ne i hi h0 (by rw[e];rfl),h.inj⟩⟩,λq hq=>?_⟩;rcases hq with⟨h0,rfl⟩|⟨i,hi,h0,rfl⟩;.exact h1
  .exact(h.hlt i hi h0).1
theorem Tg (n:Nat)(x:Nat->Ob)(ad:OA)(cap:Nat)(w:World)(lo hi:Nat)(hhi:hi<=w.1.size)(hl:(n:Int)<=1048576)(hf:∀i,i<n->CW (x i))(hc:BH w lo hi ad n x):Calls prog 78 #[.l ad n cap] w λe w'=>∃ad' cap' g A C hb,e=.returned (.l ad' n cap')/\D5 w' ad' g n x A C hb/\(∀q,GA g n (λi=>(x i).hn) hb q->w.1.size<=q)/\Below w.1.size w w':=by
 obtain⟨i0,hi0,hz0,hz1,hz2⟩:=info_parts ET;have HC:=Ai hc;have HF:=Ai hf;clear hc hf;go_enter func78,ntmps78;go_wp2;have bd0:Ng (w.alloc (.cells #[] 118)) w.1.size (.l (some ⟨w.1.size,0,none⟩) 0 0) 0 x (λ_=>none) (λ_=>0) (λ_=>0):=⟨⟨λ_=>.i 0,by simpa[AI]using CE (base:=w.1.size) (e:=118) (size:=7) w #[] 0 Bj Ny rfl,λi hi=>absurd hi (Al _)⟩,λi hi=>absurd hi (Al _),λi hi=>absurd hi (Al _),λi hi=>absurd hi (Al _),λi j hi=>absurd hi (Al _)⟩;go_loopw[3,4](λo i wr=>∃(k:Nat)(A:Nat->Option Addr)(C hb:Nat->Nat),k<=n/\i=.i k/\Below w.1.size w wr/\Ng wr w.1.size o k x A C hb)(λ_ i _=>n-(intOf i).toNat);case atStart=>exact⟨0,_,_,_,Ap _,rfl,Ae _ _,bd0⟩
 case round=>
  clear bd0;obtain⟨k,A,C,hb,hk,rfl,b0,bd⟩:=hrel;by_cases hkn:k<n
  .obtain⟨b,off,ah,ch,rfl,hlo,hbh,hcx,hsx⟩:=HC k hkn;have hfk:=(HF k hkn).h;obtain⟨e0,e1,e2,e3,e4,e5,e6⟩:=hcx.below b0 Za;have sF:=Ai (hsx.below b0 hhi);have zr:=b0.size;have BD:=Ai bd;clear hcx hsx bd;go_wp2_with fail;refine(LV (x k) ah ch _ lo hi Za hfk sF).mono ?_;rintro e w1 ⟨ad',cap',rfl,_,hs1,hb1⟩;obtain⟨b',ho1,hl1⟩:=hs1.one;have z1:=hb1.size;have Oz:=Ai ho1;have Qa:=Ai hl1;have BD1:=Ai ((BD.grow hb1).grow (Ae w1 (.cells (vO (x k) ad' cap') 118)));obtain⟨c,hown,hat⟩:=BD1.row;have KO:=Ai hat;clear hs1 ho1 hl1 e0 e1 e2 e3 e4 e5 e6 hat;go_wp2_with (at_builtin;go_must(refine wpList_append_own_at _ rfl _ _ 31 rfl w.1.size 118 i0 _ 7 96 underlying31 hi0 hz0 hz1 hz2 rfl Zb _ k (AI (k*7) c) rfl hown ⟨w1.1.size,0,none⟩ 1 1 [.s (x k).kind,.s (x k).name,.i (x k).ver,.i (x k).born,.s (x k).text,.bool (x k).ending,.l ad' (x k).hn cap'] rfl rfl (EF w1 _ 118) mW Zn Za Zd ?_;intro v' w2 hown2 hgrow2 hnil2 hat2;clear hnil2));have hg2:=hgrow2.size;have FB:∀o,AP (λ_=>False) w1 (w1.alloc o):=λo=>Aq (Ae w1 o);have BD2:=Ai (BD1.app (cap':=cap') KO hown2 hgrow2 hat2 (Oz.frP (FB _) (λh0=>⟨λh=>h,(Qa h0).2⟩)) (λh0=>⟨by have:=(Qa h0).1;omega,by have:=(Qa h0).2;simp;omega⟩)
    (λh0 e=>by obtain⟨c0,r0,_⟩:=BD.row;have h1:=(r0.lt _ e).2;have h2:=(Qa h0).1;omega)
    (λi hi h0 h1 e=>by have h2:=(BD.hlt i hi h0).2;have h3:=(Qa h1).1;omega));have B2:Below w.1.size w w2:=by obtain⟨c0,r0,_⟩:=BD.row;exact((b0.trans (hb1.mono zr)).alloc Za _).trans ((Cn hgrow2).below (λq hq e=>by have:=(r0.lt q e).1;omega) Zd)
   clear hown hown2 hgrow2 hat2 FB;go_wp2;go_roundw;case rel=>exact⟨k+1,_,_,_,Za,by go_num,B2,BD2⟩
   case measure=>simp[intOf];omega
  .have hke:k=n:=Za;subst hke;obtain⟨ad',cap',g,e,at',hq⟩:=bd.done;subst e;have AT':=Ai at';clear at' bd;go_wp2;go_ret;exact⟨ad',cap',g,A,C,hb,rfl,AT',hq,b0⟩
theorem TL (n:Nat)(x:Nat->Ch)(ad:OA)(cap:Nat)(w:World)(lo hi:Nat)(hhi:hi<=w.1.size)(hl:(n:Int)<=1048576)(hf:∀i,i<n->CW (x i).ob)(hc:Dp w lo hi ad n x):Calls prog 79 #[.l ad n cap] w λe w'=>∃ad' cap' g A C hb,e=.returned (.l ad' n cap')/\n<=cap'/\EG w' ad' g n x A C hb/\(∀q,GA g n (λi=>(x i).ob.hn) hb q->w.1.size<=q)/\Below w.1.size w w':=by
 obtain⟨i0,hi0,hz0,hz1,hz2⟩:=info_parts Eg;have HC:=Ai hc;have HF:=Ai hf;clear hc hf;go_enter func79,ntmps79;go_wp2;have bd0:Nv (w.alloc (.cells #[] 120)) w.1.size (.l (some ⟨w.1.size,0,none⟩) 0 0) 0 x (λ_=>none) (λ_=>0) (λ_=>0):=⟨⟨λ_=>.i 0,by simpa[AI]using CE (base:=w.1.size) (e:=120) (size:=9) w #[] 0 Bj Ny rfl,λi hi=>absurd hi (Al _)⟩,λi hi=>absurd hi (Al _),λi hi=>absurd hi (Al _),λi hi=>absurd hi (Al _),λi j hi=>absurd hi (Al _)⟩;go_loopw[3,4](λo i wr=>∃(k:Nat)(A:Nat->Option Addr)(C hb:Nat->Nat),k<=n/\i=.i k/\Below w.1.size w wr/\Nv wr w.1.size o k x A C hb)(λ_ i _=>n-(intOf i).toNat);case atStart=>exact⟨0,_,_,_,Ap _,rfl,Ae _ _,bd0⟩
 case round=>
  clear bd0;obtain⟨k,A,C,hb,hk,rfl,b0,bd⟩:=hrel;by_cases hkn:k<n
  .obtain⟨b,off,ah,ch,rfl,hlo,hbh,hcx,hsx⟩:=HC k hkn;have hfk:=(HF k hkn).h;obtain⟨e0,e1,e2,e3,e4,e5,e6,e7,e8⟩:=hcx.below b0 Za;have zr:=b0.size;have sF:=Ai (λo=>(hsx.below b0 hhi).alloc Za o);have BD:=Ai bd;clear hcx hsx bd;go_wp2_with fail;refine(LV (x k).ob ah ch _ lo hi Zd hfk (sF _)).mono ?_;rintro e w1 ⟨ad',cap',rfl,_,hs1,hb1⟩;obtain⟨b',ho1,hl1⟩:=hs1.one;have z1:wr.1.size+1<=w1.1.size:=by have:=hb1.size;simpa using this
   have Oz:=Ai ho1;have Qa:Hid ((x k).ob.hn≠0->wr.1.size+1<=b'/\b'<w1.1.size):=λh0=>by have:=hl1 h0;simpa using this
   have rv:AH w1 wr.1.size 9 (Bg [.i (x k).ver,.bool (x k).gone,.s (x k).ob.kind,.s (x k).ob.name,.i (x k).ob.ver,.i (x k).ob.born,.s (x k).ob.text,.bool (x k).ob.ending,.l ah (x k).ob.hn ch]):=AS (w:=wr) (l:=[.i (x k).ver,.bool (x k).gone,.s (x k).ob.kind,.s (x k).ob.name,.i (x k).ob.ver,.i (x k).ob.born,.s (x k).ob.text,.bool (x k).ob.ending,.l ah (x k).ob.hn ch]) (t:=120) hb1;have RV:=Ai rv;have q0:=rv.cell 0 Za;have q1:=rv.cell 1 Za;have q2:=rv.cell 2 Za;have q3:=rv.cell 3 Za;have q4:=rv.cell 4 Za;have q5:=rv.cell 5 Za;have q6:=rv.cell 6 Za;have q7:=rv.cell 7 Za;have q8:=rv.cell 8 Za;have qf:=rv.free;simp only[Bg,Af,Ag]at q0 q1 q2 q3 q4 q5 q6 q7 q8;have hbw:Below wr.1.size wr w1:=(Ae _ _).trans (hb1.mono Ze);have Jd:=Ai hbw;clear hs1 ho1 hl1 e0 e1 e2 e3 e4 e5 e6 e7 e8 rv hb1 hbw;have hBW:Below wr.1.size wr (((((((w1.setCell ⟨wr.1.size,2,none⟩ (.s (x k).ob.kind)).setCell ⟨wr.1.size,3,none⟩ (.s (x k).ob.name)).setCell ⟨wr.1.size,4,none⟩ (.i (x k).ob.ver)).setCell ⟨wr.1.size,5,none⟩ (.i (x k).ob.born)).setCell ⟨wr.1.size,6,none⟩ (.s (x k).ob.text)).setCell ⟨wr.1.size,7,none⟩ (.bool (x k).ob.ending)).setCell ⟨wr.1.size,8,none⟩ (.l ad' (x k).ob.hn cap')):=by
    iterate 7 refine AJ ?_ Ze _
    exact Jd
   have zS:(((((((w1.setCell ⟨wr.1.size,2,none⟩ (.s (x k).ob.kind)).setCell ⟨wr.1.size,3,none⟩ (.s (x k).ob.name)).setCell ⟨wr.1.size,4,none⟩ (.i (x k).ob.ver)).setCell ⟨wr.1.size,5,none⟩ (.i (x k).ob.born)).setCell ⟨wr.1.size,6,none⟩ (.s (x k).ob.text)).setCell ⟨wr.1.size,7,none⟩ (.bool (x k).ob.ending)).setCell ⟨wr.1.size,8,none⟩ (.l ad' (x k).ob.hn cap')).1.size=w1.1.size:=Ze;have BD1:=Ai (BD.grow (hBW.alloc (by rw[zS];omega) (.cells #[.i (x k).ver,.bool (x k).gone,.s (x k).ob.kind,.s (x k).ob.name,.i (x k).ob.ver,.i (x k).ob.born,.s (x k).ob.text,.bool (x k).ob.ending,.l ad' (x k).ob.hn cap'] 120)));obtain⟨c,hown,hat⟩:=BD1.row;have KO:=Ai hat;have FS:AP (λq=>q=wr.1.size) w1 (((((((w1.setCell ⟨wr.1.size,2,none⟩ (.s (x k).ob.kind)).setCell ⟨wr.1.size,3,none⟩ (.s (x k).ob.name)).setCell ⟨wr.1.size,4,none⟩ (.i (x k).ob.ver)).setCell ⟨wr.1.size,5,none⟩ (.i (x k).ob.born)).setCell ⟨wr.1.size,6,none⟩ (.s (x k).ob.text)).setCell ⟨wr.1.size,7,none⟩ (.bool (x k).ob.ending)).setCell ⟨wr.1.size,8,none⟩ (.l ad' (x k).ob.hn cap')):=by
    iterate 7 refine AP.setCell (P:=λq=>q=wr.1.size) ?_ (by rfl) _
    exact AP.refl _ _
   have Um:=Ai ((Oz.frP FS (λh0=>⟨by have:=(Qa h0).1;omega,(Qa h0).2⟩)).frP (Aq (P:=λ_=>False) (Ae (((((((w1.setCell ⟨wr.1.size,2,none⟩ (.s (x k).ob.kind)).setCell ⟨wr.1.size,3,none⟩ (.s (x k).ob.name)).setCell ⟨wr.1.size,4,none⟩ (.i (x k).ob.ver)).setCell ⟨wr.1.size,5,none⟩ (.i (x k).ob.born)).setCell ⟨wr.1.size,6,none⟩ (.s (x k).ob.text)).setCell ⟨wr.1.size,7,none⟩ (.bool (x k).ob.ending)).setCell ⟨wr.1.size,8,none⟩ (.l ad' (x k).ob.hn cap')) (.cells #[.i (x k).ver,.bool (x k).gone,.s (x k).ob.kind,.s (x k).ob.name,.i (x k).ob.ver,.i (x k).ob.born,.s (x k).ob.text,.bool (x k).ob.ending,.l ad' (x k).ob.hn cap'] 120))) (λh0=>⟨λh=>h,by rw[zS];exact(Qa h0).2⟩));have Qe:=Ai (hBW.alloc (by rw[zS];omega) (.cells #[.i (x k).ver,.bool (x k).gone,.s (x k).ob.kind,.s (x k).ob.name,.i (x k).ob.ver,.i (x k).ob.born,.s (x k).ob.text,.bool (x k).ob.ending,.l ad' (x k).ob.hn cap'] 120));have hown':=Ai hown;clear hat FS hBW zS hown;go_wp2_with (at_builtin;go_must(refine wpList_append_own_at _ rfl _ _ 32 rfl w.1.size 120 i0 _ 9 112 underlying32 hi0 hz0 hz1 hz2 rfl Zb _ k (AI (k*9) c) rfl hown' ⟨w1.1.size,0,none⟩ 1 1 [.i (x k).ver,.bool (x k).gone,.s (x k).ob.kind,.s (x k).ob.name,.i (x k).ob.ver,.i (x k).ob.born,.s (x k).ob.text,.bool (x k).ob.ending,.l ad' (x k).ob.hn cap'] rfl rfl (by have h:=EF (((((((w1.setCell ⟨wr.1.size,2,none⟩ (.s (x k).ob.kind)).setCell ⟨wr.1.size,3,none⟩ (.s (x k).ob.name)).setCell ⟨wr.1.size,4,none⟩ (.i (x k).ob.ver)).setCell ⟨wr.1.size,5,none⟩ (.i (x k).ob.born)).setCell ⟨wr.1.size,6,none⟩ (.s (x k).ob.text)).setCell ⟨wr.1.size,7,none⟩ (.bool (x k).ob.ending)).setCell ⟨wr.1.size,8,none⟩ (.l ad' (x k).ob.hn cap')) [.i (x k).ver,.bool (x k).gone,.s (x k).ob.kind,.s (x k).ob.name,.i (x k).ob.ver,.i (x k).ob.born,.s (x k).ob.text,.bool (x k).ob.ending,.l ad' (x k).ob.hn cap'] 120;simpa using h) mW Zn Za Zd ?_;intro v' w2 hown2 hgrow2 hnil2 hat2;clear hnil2));have hg2:=hgrow2.size;have BD2:=Ai (BD1.app (cap':=cap') KO hown2 hgrow2 hat2 Um (λh0=>⟨by have:=(Qa h0).1;omega,by have:=(Qa h0).2;simp;omega⟩)
    (λh0 e=>by obtain⟨c0,r0,_⟩:=BD.row;have h1:=(r0.lt _ e).2;have h2:=(Qa h0).1;omega)
    (λi hi h0 h1 e=>by have h2:=(BD.hlt i hi h0).2;have h3:=(Qa h1).1;omega));have B2:Below w.1.size w w2:=by obtain⟨c0,r0,_⟩:=BD.row;exact(b0.trans (Qe.mono zr)).trans ((Cn hgrow2).below (λq hq e=>by have:=(r0.lt q e).1;omega) Zd)
   clear hown2 hgrow2 hat2;go_roundw;case rel=>exact⟨k+1,_,_,_,Za,by go_num,B2,BD2⟩
   case measure=>simp[intOf];omega
  .have hke:k=n:=Za;subst hke;obtain⟨ad',cap',g,e,hcp,at',hq⟩:=bd.done;subst e;have AT':=Ai at';clear at' bd;go_wp2;go_ret;exact⟨ad',cap',g,A,C,hb,rfl,hcp,AT',hq,b0⟩
end Go.Proofs.YtllmmkchokkaaaaGreatDoor
