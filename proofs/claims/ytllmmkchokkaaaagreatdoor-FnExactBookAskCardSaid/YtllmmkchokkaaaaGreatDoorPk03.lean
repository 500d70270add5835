import Derived.Test.YtllmmkchokkaaaaGreatDoorPk02
import Derived.Test.YtllmmkchokkaaaaGreatDoorPk01
set_option maxRecDepth 100000
set_option maxHeartbeats 400000
namespace Go.Proofs.YtllmmkchokkaaaaGreatDoor
open Go.RowKit Go.Proofs.Tryz
theorem ET:(prog.info? 118).map (λi=>(i.zero,i.size,i.bytes))=some (some (.agg #[.s ByteArray.empty,.s ByteArray.empty,.i 0,.i 0,.s ByteArray.empty,.bool false,.l none 0 0]),7,96):=Zc
structure J7 (w:World)(g m:Nat):Prop where
 has:∀j,j<m->∃u,w.cell? ⟨g,j,none⟩=some u
 free:∀j,w.frozen? ⟨g,j,none⟩=false
 lt:g<w.1.size
theorem ES{w':World}{g n sz:Nat}{base:Nat}{e:TypeId}{xs:List Value}(ho:w'.ownsRow base e sz (.l (some ⟨g,0,none⟩) n n) n xs):J7 w' g (n*sz):=by
 refine⟨λj hj=>?_,λj=>ho.frozenAt j,?_⟩
 .rw[ho.cellAt j hj];have:j<xs.length:=by rw[ho.1];omega
  exact⟨xs[j],by simp[this]⟩
 .rcases ho.2 with⟨h,_⟩|⟨g',cap,cur,h,_,hh,_⟩;.simp at h
  .simp only[Value.slice.injEq,AR,Addr.mk.injEq,and_true,true_and]at h;obtain⟨rfl,rfl⟩:=h;exact(Cj.1 hh).1
theorem J7.below{w w':World}{g m B:Nat}(h:J7 w g m)(hb:Below B w w')(hg:g<B):J7 w' g m:=by refine⟨λj hj=>?_,λj=>(hb.frozen (p:=⟨g,j,none⟩) hg).trans (h.free j),Aa h.lt hb.size⟩;obtain⟨u,hu⟩:=h.has j hj;exact⟨u,(hb.cell (p:=⟨g,j,none⟩) hg).trans hu⟩
theorem Dv (b:Nat):∀(vs:List Value)(o:Nat)(w:World),(w.setCells b o vs).1.size=w.1.size
 |[],_,_=>rfl
 |v::r,o,w=>by rw[World.setCells,Dv b r,Az]
theorem J7.setCells{w:World}{g m o:Nat}(h:J7 w g m)(vs:List Value)(ho:o+vs.length<=m):J7 (w.setCells g o vs) g m:=by
 refine⟨λj hj=>?_,λj=>by rw[World.frozen?_setCells];exact h.free j,by rw[Dv];exact h.lt⟩;by_cases hj2:j<o\/o+vs.length<=j;.rw[C6 g vs o w _ (λ_ _=>hj2)];exact h.has j hj
 .obtain⟨i,rfl⟩:∃i,j=o+i:=⟨j-o,Za⟩;have hi:i<vs.length:=Za;exact⟨vs[i],CO g vs o w (λj hj=>by obtain⟨u,hu⟩:=h.has (o+j) Za;rw[hu];rfl) i hi⟩
theorem CR (b:Nat):∀(vs:List Value)(o:Nat)(w:World),Fr b (b+1) w (w.setCells b o vs)
 |[],_,w=>Fr.refl _ _ w
 |v::r,o,w=>((Fr.refl b (b+1) w).setCell (p:=⟨b,o,none⟩) Bj (Bp _) v).trans (CR b r (o+1) _)
structure Dj (w:World)(g hi n m:Nat)(x:Nat->Ob)(r:Nat->Nat):Prop where
 room:J7 w g (m*7)r0:g<r 0
 mono:∀i,i<n->r i<=r (i+1)rn:r n<=hi
 hi:hi<=w.1.size
 at_:∀i,i<n->∃ah ch,DC w g (i*7) (x i) ah ch/\AV w (r i) (r (i+1)) ah (x i).hn (x i).hs/\Du w (x i).hn ah ch
theorem E6{r:Nat->Nat}{n:Nat}(h:∀i,i<n->r i<=r (i+1)):∀{i j:Nat},i<=j->j<=n->r i<=r j:=by intro i j hij hj;induction j with
 |zero=>have:i=0:=Za;subst this;exact Aw _
 |succ j ih=>
   rcases As j i with h1|h1;.have:i=j+1:=Za;subst this;exact Aw _
   .exact AA (ih h1 Za) (h j Za)
theorem DC.fr{w w':World}{b o:Nat}{x:Ob}{ad:OA}{cap:Nat}(h:DC w b o x ad cap)(e:∀j,j<7->w'.cell? ⟨b,o+j,none⟩=w.cell? ⟨b,o+j,none⟩):DC w' b o x ad cap:=⟨(e 0 Za).trans h.c0,(e 1 Za).trans h.c1,(e 2 Za).trans h.c2,(e 3 Za).trans h.c3,(e 4 Za).trans h.c4,(e 5 Za).trans h.c5,(e 6 Za).trans h.c6⟩
theorem fX{P:Prop}(h:P:=by rw[if_pos Za,if_pos Za];have h1:r (i+1)<=wr.1.size:=AA (E6 h.mono Za Bj) h.rn;have h2:g<r i:=Aa h.r0 (E6 h.mono Ny Za);exact(s.fr (DP (lo:=0) (hi:=0) hb) h1 (Ax Ny)).fr hF (AA h1 hb.size) (Ax Za)):P:=h
theorem iX{P:Prop}(h:P:=by
  by_cases e:i<k;.rw[if_pos Za,if_pos Za];exact h.mono i e
  .have:i=k:=Za;subst this;rw[if_pos Za,if_neg Za];exact AA h.rn hb.size):P:=h
theorem Dj.step{wr w1:World}{g k n:Nat}{x:Nat->Ob}{r:Nat->Nat}(h:Dj wr g wr.1.size k n x r)(hk:k<n)(hb:Below wr.1.size wr w1){ah:OA}{ch:Nat}(hs:AV w1 wr.1.size w1.1.size ah (x k).hn (x k).hs)(hcg:Du w1 (x k).hn ah ch):∃r',Dj (w1.setCells g (k*7) [.s (x k).kind,.s (x k).name,.i (x k).ver,.i (x k).born,.s (x k).text,.bool (x k).ending,.l ah (x k).hn ch]) g (w1.setCells g (k*7) [.s (x k).kind,.s (x k).name,.i (x k).ver,.i (x k).born,.s (x k).text,.bool (x k).ending,.l ah (x k).hn ch]).1.size (k+1) n x r':=by
 have hg:=h.room.lt;have hR:=h.room.below hb hg;generalize hvs:[Value.string (x k).kind,.s (x k).name,.i (x k).ver,.i (x k).born,.s (x k).text,.bool (x k).ending,.l ah (x k).hn ch]=vs;have hlen:vs.length=7:=by rw[<-hvs];rfl
 have hF:=CR g vs (k*7) w1;have hin:=CO g vs (k*7) w1 (λj hj=>by obtain⟨u,hu⟩:=hR.has (k*7+j) Za;rw[hu];rfl);refine⟨λi=>if i<=k then r i else w1.1.size,hR.setCells vs Za,by simpa using h.r0,λi hi=>?_,?_,Aw _,λi hi=>?_⟩;.exact iX
 .rw[if_neg Za,Dv];exact Aw _
 .by_cases e:i<k
  .obtain⟨ah',ch',c,s,cg⟩:=h.at_ i e;refine⟨ah',ch',?_,?_,cg.grow (by rw[Dv];exact hb.size)⟩;.refine(c.below hb hg).fr (λj hj=>?_);exact C6 g vs (k*7) w1 _ (λ_ _=>AD (by show i*7+j<k*7;omega))
   .exact fX
  .have:i=k:=Za;subst this;refine⟨ah,ch,?_,?_,hcg.grow (by rw[Dv];exact Aw _)⟩;.have f:=λj (hj:j<7)=>hin j Za;have f0:=f 0 Za;have f1:=f 1 Za;have f2:=f 2 Za;have f3:=f 3 Za;have f4:=f 4 Za;have f5:=f 5 Za;have f6:=f 6 Za;subst hvs;exact⟨f0,f1,f2,f3,f4,f5,f6⟩
   .rw[if_pos Za,if_neg Za];exact(hs.fr hF Bj (Ax Za)).mono h.rn Bj
theorem Oq{w1:World}{g n:Nat}(x:Nat->Ob)(h:J7 w1 g (n*7)):Dj w1 g w1.1.size 0 n x (λ_=>g+1):=⟨h,Bp _,λ_ h=>absurd h (Al _),h.lt,Aw _,λ_ h=>absurd h (Al _)⟩
theorem XK (n:Nat)(x:Nat->Ob)(ad:OA)(cap:Nat)(w:World)(lo hi:Nat)(hhi:hi<=w.1.size)(hl:(n:Int)<=1099511627776)(hf:∀i,i<n->CW (x i))(hc:BH w lo hi ad n x):Calls prog 37 #[.l ad n cap] w λe w'=>∃cap' r,e=.returned (.l (some ⟨w.1.size,0,none⟩) n cap')/\n<=cap'/\Dj w' w.1.size w'.1.size n n x r/\Below w.1.size w w':=by
 obtain⟨i0,hi0,hz0,hz1,hz2⟩:=info_parts ET;go_enter func37,ntmps37;go_wp2_with (first
  |(at_make;refine wpList_make_full _ rfl _ _ 31 rfl w.1.size 118 i0 _ 7 underlying31 hi0 hz0 hz1 .i64 .i64 _ _ n rfl rfl Za Za Sx Zn Za ?_;intro w1 hown1 hgrow1));have r1:=Oq x (ES hown1);have hb1:Below w.1.size w w1:=(Ak _ _).grown hgrow1 Bj Ze;clear hown1 hgrow1 hi0 hz0 hz1 hz2;go_loopw[4](λi wr=>∃k:Nat,k<=n/\i=.i k/\Below w.1.size w wr/\∃r,Dj wr w.1.size wr.1.size k n x r)(λi _=>n-(intOf i).toNat);case atStart=>exact⟨0,Ap _,rfl,hb1,_,r1⟩
 case round=>
  obtain⟨k,hk,rfl,hb,r,ho⟩:=hrel;clear r1 hb1;by_cases hkn:k<n
  .obtain⟨b,off,ah,ch,rfl,hlo,hbh,hcx,hsx⟩:=hc k hkn;have hfk:=(hf k hkn).h;obtain⟨d0,d1,d2,d3,d4,d5,d6⟩:=hcx.below hb Za;have hsx':=hsx.below hb hhi;clear hc hf hcx hsx;have HO:=Ai ho;have hrm:=ho.room;clear ho;go_wp2_with (fail);refine(T6 (x k) ah ch wr lo hi (AA hhi hb.size) hfk hsx').mono ?_;rintro e w1 ⟨ah',ch',rfl,hcg,hown,hb1⟩;obtain⟨r',R⟩:=HO.step hkn hb1 (ch:=ch') hown hcg;have HR:=Ai R;have HB:=Ai ((hb.trans (hb1.mono hb.size)).trans ((CR w.1.size [Value.string (x k).kind,.s (x k).name,.i (x k).ver,.i (x k).born,.s (x k).text,.bool (x k).ending,.l ah' (x k).hn ch'] (k*7) w1).below Bj (hb.trans (hb1.mono hb.size)).size));have hrm1:=hrm.below hb1 hrm.lt;obtain⟨_,q0⟩:=hrm1.has (k*7) Za;obtain⟨_,q1⟩:=hrm1.has (k*7+1) Za;obtain⟨_,q2⟩:=hrm1.has (k*7+2) Za;obtain⟨_,q3⟩:=hrm1.has (k*7+3) Za;obtain⟨_,q4⟩:=hrm1.has (k*7+4) Za;obtain⟨_,q5⟩:=hrm1.has (k*7+5) Za;obtain⟨_,q6⟩:=hrm1.has (k*7+6) Za;have qf:=hrm1.free;clear hrm hrm1 R HO d0 d1 d2 d3 d4 d5 d6 hsx' hown hcg;go_wp2;go_roundw;case rel=>exact⟨k+1,Za,by go_num,HB,r',HR⟩
   case measure=>simp[intOf];omega
  .have:k=n:=Za;subst this;have HO:=Ai ho;clear hc hf ho;go_wp2;go_ret;exact⟨_,r,rfl,Aw _,HO,hb⟩
theorem Eg:(prog.info? 120).map (λi=>(i.zero,i.size,i.bytes))=some (some (.agg #[.i 0,.bool false,.s ByteArray.empty,.s ByteArray.empty,.i 0,.i 0,.s ByteArray.empty,.bool false,.l none 0 0]),9,112):=Zc
theorem cL (x:Ch)(ad:OA)(cap:Nat)(w:World)(lo hi:Nat)(hhi:hi<=w.1.size)(hl:(x.ob.hn:Int)<=8796093022208)(hc:AB w lo hi ad x.ob.hn x.ob.hs):Calls prog 81 #[.agg #[.i x.ver,.bool x.gone,.s x.ob.kind,.s x.ob.name,.i x.ob.ver,.i x.ob.born,.s x.ob.text,.bool x.ob.ending,.l ad x.ob.hn cap]] w λe w'=>∃ad' cap',e=.returned (.agg #[.i x.ver,.bool x.gone,.s x.ob.kind,.s x.ob.name,.i x.ob.ver,.i x.ob.born,.s x.ob.text,.bool x.ob.ending,.l ad' x.ob.hn cap'])/\AV w' w.1.size w'.1.size ad' x.ob.hn x.ob.hs/\Below w.1.size w w':=by
 go_enter func81,ntmps81;go_wp2_with fail;refine(T6 x.ob ad cap _ lo hi Zd hl (hc.below (B:=w.1.size) ((((Ak _ _).alloc Bj _).alloc Ze _).alloc Zd _) hhi)).mono ?_;rintro e w1 ⟨ad',cap',rfl,_,hown,hb1⟩;have hbW:Below w.1.size w w1:=((((Ak _ _).alloc Bj _).alloc Ze _).alloc Zd _).trans (hb1.mono Zd);have hz:w.1.size+2<w1.1.size:=by have:=hb1.size;simp at this;omega
 obtain⟨hcc,hff⟩:=oH hb1;simp only[AE]at hcc hff hown;clear hb1 hc;go_wp2;refine bodyPost_ret (v:=.agg #[.i x.ver,.bool x.gone,.s x.ob.kind,.s x.ob.name,.i x.ob.ver,.i x.ob.born,.s x.ob.text,.bool x.ob.ending,.l ad' x.ob.hn cap']) (by simp[results,results81,go_sem,hcc]) rfl ⟨ad',cap',rfl,?_,?_⟩
 .simp only[Az];refine(AV.fr hown (lo2:=w.1.size) (hi2:=w.1.size+3) ?_ Bj Za).mono Za Bj;iterate 16 refine Fr.setCell ?_ Zo Zo _
  exact Fr.refl _ _ _
 .refine hbW.trans (Fr.below (lo:=w.1.size) (hi:=w.1.size+3) ?_ Bj hbW.size);iterate 16 refine Fr.setCell ?_ Zo Zo _
  exact Fr.refl _ _ _
structure Di (w:World)(g hi n m:Nat)(x:Nat->Ch)(r:Nat->Nat):Prop where
 room:J7 w g (m*9)r0:g<r 0
 mono:∀i,i<n->r i<=r (i+1)rn:r n<=hi
 hi:hi<=w.1.size
 at_:∀i,i<n->∃ah ch,Ga w g (i*9) (x i) ah ch/\AV w (r i) (r (i+1)) ah (x i).ob.hn (x i).ob.hs
theorem Ga.fr{w w':World}{b o:Nat}{x:Ch}{ad:OA}{cap:Nat}(h:Ga w b o x ad cap)(e:∀j,j<9->w'.cell? ⟨b,o+j,none⟩=w.cell? ⟨b,o+j,none⟩):Ga w' b o x ad cap:=⟨(e 0 Za).trans h.c0,(e 1 Za).trans h.c1,(e 2 Za).trans h.c2,(e 3 Za).trans h.c3,(e 4 Za).trans h.c4,(e 5 Za).trans h.c5,(e 6 Za).trans h.c6,(e 7 Za).trans h.c7,(e 8 Za).trans h.c8⟩
theorem Di.step{wr w1:World}{g k n:Nat}{x:Nat->Ch}{r:Nat->Nat}(h:Di wr g wr.1.size k n x r)(hk:k<n)(hb:Below wr.1.size wr w1){ah:OA}{ch:Nat}(hs:AV w1 wr.1.size w1.1.size ah (x k).ob.hn (x k).ob.hs):∃r',Di (w1.setCells g (k*9) [.i (x k).ver,.bool (x k).gone,.s (x k).ob.kind,.s (x k).ob.name,.i (x k).ob.ver,.i (x k).ob.born,.s (x k).ob.text,.bool (x k).ob.ending,.l ah (x k).ob.hn ch]) g (w1.setCells g (k*9) [.i (x k).ver,.bool (x k).gone,.s (x k).ob.kind,.s (x k).ob.name,.i (x k).ob.ver,.i (x k).ob.born,.s (x k).ob.text,.bool (x k).ob.ending,.l ah (x k).ob.hn ch]).1.size (k+1) n x r':=by
 have hg:=h.room.lt;have hR:=h.room.below hb hg;generalize hvs:[Value.int .i64 (x k).ver,.bool (x k).gone,.s (x k).ob.kind,.s (x k).ob.name,.i (x k).ob.ver,.i (x k).ob.born,.s (x k).ob.text,.bool (x k).ob.ending,.l ah (x k).ob.hn ch]=vs;have hlen:vs.length=9:=by rw[<-hvs];rfl
 have hF:=CR g vs (k*9) w1;have hin:=CO g vs (k*9) w1 (λj hj=>by obtain⟨u,hu⟩:=hR.has (k*9+j) Za;rw[hu];rfl);refine⟨λi=>if i<=k then r i else w1.1.size,hR.setCells vs Za,by simpa using h.r0,λi hi=>?_,?_,Aw _,λi hi=>?_⟩;.exact iX
 .rw[if_neg Za,Dv];exact Aw _
 .by_cases e:i<k
  .obtain⟨ah',ch',c,s⟩:=h.at_ i e;refine⟨ah',ch',?_,?_⟩;.refine(c.below hb hg).fr (λj hj=>?_);exact C6 g vs (k*9) w1 _ (λ_ _=>AD (by show i*9+j<k*9;omega))
   .exact fX
  .have:i=k:=Za;subst this;refine⟨ah,ch,?_,?_⟩;.have f:=λj (hj:j<9)=>hin j Za;have f0:=f 0 Za;have f1:=f 1 Za;have f2:=f 2 Za;have f3:=f 3 Za;have f4:=f 4 Za;have f5:=f 5 Za;have f6:=f 6 Za;have f7:=f 7 Za;have f8:=f 8 Za;subst hvs;exact⟨f0,f1,f2,f3,f4,f5,f6,f7,f8⟩
   .rw[if_pos Za,if_neg Za];exact(hs.fr hF Bj (Ax Za)).mono h.rn Bj
theorem Ot{w1:World}{g n:Nat}(x:Nat->Ch)(h:J7 w1 g (n*9)):Di w1 g w1.1.size 0 n x (λ_=>g+1):=⟨h,Bp _,λ_ h=>absurd h (Al _),h.lt,Aw _,λ_ h=>absurd h (Al _)⟩
theorem Xq (n:Nat)(x:Nat->Ch)(ad:OA)(cap:Nat)(w:World)(lo hi:Nat)(hhi:hi<=w.1.size)(hl:(n:Int)<=1099511627776)(hf:∀i,i<n->CW (x i).ob)(hc:Dp w lo hi ad n x):Calls prog 38 #[.l ad n cap] w λe w'=>∃cap' r,e=.returned (.l (some ⟨w.1.size,0,none⟩) n cap')/\n<=cap'/\Di w' w.1.size w'.1.size n n x r/\Below w.1.size w w':=by
 obtain⟨i0,hi0,hz0,hz1,hz2⟩:=info_parts Eg;go_enter func38,ntmps38;go_wp2_with (first
  |(at_make;refine wpList_make_full _ rfl _ _ 32 rfl w.1.size 120 i0 _ 9 underlying32 hi0 hz0 hz1 .i64 .i64 _ _ n rfl rfl Za Za Sx Zn Za ?_;intro w1 hown1 hgrow1));have r1:=Ot x (ES hown1);have hb1:Below w.1.size w w1:=(Ak _ _).grown hgrow1 Bj Ze;clear hown1 hgrow1 hi0 hz0 hz1 hz2;go_loopw[4](λi wr=>∃k:Nat,k<=n/\i=.i k/\Below w.1.size w wr/\∃r,Di wr w.1.size wr.1.size k n x r)(λi _=>n-(intOf i).toNat);case atStart=>exact⟨0,Ap _,rfl,hb1,_,r1⟩
 case round=>
  obtain⟨k,hk,rfl,hb,r,ho⟩:=hrel;clear r1 hb1;by_cases hkn:k<n
  .obtain⟨b,off,ah,ch,rfl,hlo,hbh,hcx,hsx⟩:=hc k hkn;have hfk:=(hf k hkn).h;obtain⟨d0,d1,d2,d3,d4,d5,d6,d7,d8⟩:=hcx.below hb Za;have hsx':=hsx.below hb hhi;clear hc hf hcx hsx;have HO:=Ai ho;have hrm:=ho.room;clear ho;go_wp2_with (fail);refine(cL (x k) ah ch wr lo hi (AA hhi hb.size) hfk hsx').mono ?_;rintro e w1 ⟨ah',ch',rfl,hown,hb1⟩;obtain⟨r',R⟩:=HO.step hkn hb1 (ch:=ch') hown;have HR:=Ai R;have HB:=Ai ((hb.trans (hb1.mono hb.size)).trans ((CR w.1.size [Value.int .i64 (x k).ver,.bool (x k).gone,.s (x k).ob.kind,.s (x k).ob.name,.i (x k).ob.ver,.i (x k).ob.born,.s (x k).ob.text,.bool (x k).ob.ending,.l ah' (x k).ob.hn ch'] (k*9) w1).below Bj (hb.trans (hb1.mono hb.size)).size));have hrm1:=hrm.below hb1 hrm.lt;obtain⟨_,q0⟩:=hrm1.has (k*9) Za;obtain⟨_,q1⟩:=hrm1.has (k*9+1) Za;obtain⟨_,q2⟩:=hrm1.has (k*9+2) Za;obtain⟨_,q3⟩:=hrm1.has (k*9+3) Za;obtain⟨_,q4⟩:=hrm1.has (k*9+4) Za;obtain⟨_,q5⟩:=hrm1.has (k*9+5) Za;obtain⟨_,q6⟩:=hrm1.has (k*9+6) Za;obtain⟨_,q7⟩:=hrm1.has (k*9+7) Za;obtain⟨_,q8⟩:=hrm1.has (k*9+8) Za;have qf:=hrm1.free;clear hrm hrm1 R HO d0 d1 d2 d3 d4 d5 d6 d7 d8 hsx' hown;go_wp2;go_roundw;case rel=>exact⟨k+1,Za,by go_num,HB,r',HR⟩
   case measure=>simp[intOf];omega
  .have:k=n:=Za;subst this;have HO:=Ai ho;clear hc hf ho;go_wp2;go_ret;exact⟨_,r,rfl,Aw _,HO,hb⟩
theorem DO:(prog.info? 130).map (λi=>(i.zero,i.size,i.bytes))=some (some (.agg #[.s ByteArray.empty,.i 0,.s ByteArray.empty,.i 0,.i 0]),5,56):=Zc
theorem ZK (x:Ti)(w:World):Calls prog 82 #[.agg (vT x)] w λe w'=>e=.returned (.agg (vT x))/\Below w.1.size w w':=by go_enter func82,ntmps82;go_wp2;refine bodyPost_ret (v:=.agg (vT x)) (by simp[results,results82,go_sem]) rfl ⟨rfl,?_⟩;exact((((Ak _ _).alloc Bj _).alloc Ze _).alloc Zd _)
structure DI (w:World)(g n m:Nat)(x:Nat->Ti):Prop where
 room:J7 w g (m*5)at_:∀i,i<n->Hs w g (i*5) (x i)
theorem DI.step{wr w1:World}{g k n:Nat}{x:Nat->Ti}(h:DI wr g k n x)(hk:k<n)(hb:Below wr.1.size wr w1):DI (w1.setCells g (k*5) [.s (x k).client,.i (x k).num,.s (x k).print,.i (x k).code,.i (x k).ver]) g (k+1) n x:=by
 have hg:=h.room.lt;have hR:=h.room.below hb hg;generalize hvs:[Value.string (x k).client,.i (x k).num,.s (x k).print,.i (x k).code,.i (x k).ver]=vs;have hlen:vs.length=5:=by rw[<-hvs];rfl
 have hin:=CO g vs (k*5) w1 (λj hj=>by obtain⟨u,hu⟩:=hR.has (k*5+j) Za;rw[hu];rfl);refine⟨hR.setCells vs Za,λi hi=>?_⟩;by_cases e:i<k;.have c:=(h.at_ i e).below hb hg;have ee:∀j,j<5->(w1.setCells g (k*5) vs).cell? ⟨g,i*5+j,none⟩=w1.cell? ⟨g,i*5+j,none⟩:=λj hj=>C6 g vs (k*5) w1 _ (λ_ _=>AD (by show i*5+j<k*5;omega));exact⟨(ee 0 Za).trans c.c0,(ee 1 Za).trans c.c1,(ee 2 Za).trans c.c2,(ee 3 Za).trans c.c3,(ee 4 Za).trans c.c4⟩
 .have:i=k:=Za;subst this;have f:=λj (hj:j<5)=>hin j Za;have f0:=f 0 Za;have f1:=f 1 Za;have f2:=f 2 Za;have f3:=f 3 Za;have f4:=f 4 Za;subst hvs;exact⟨f0,f1,f2,f3,f4⟩
theorem BE{w w1:World}{c0 c1 c2:Array Value}{t0 t1 t2:TypeId}(hb:Below (((w.alloc (.cells c0 t0)).alloc (.cells c1 t1)).alloc (.cells c2 t2)).1.size (((w.alloc (.cells c0 t0)).alloc (.cells c1 t1)).alloc (.cells c2 t2)) w1):(∀i,w1.cell? ⟨w.1.size,i,none⟩=c0[i]?)/\(∀i,w1.cell? ⟨w.1.size+1,i,none⟩=c1[i]?)/\(∀i,w1.cell? ⟨w.1.size+1+1,i,none⟩=c2[i]?)/\(∀i,w1.frozen? ⟨w.1.size+1,i,none⟩=false)/\(∀i,w1.frozen? ⟨w.1.size+1+1,i,none⟩=false):=by
 refine⟨λi=>?_,λi=>?_,λi=>?_,λi=>?_,λi=>?_⟩;.rw[hb.cell (p:=⟨w.1.size,i,none⟩) Zd];rw[Ar _ _ _ Zo,Ar _ _ _ Zo,GD _ _ _ _ rfl]
 .rw[hb.cell (p:=⟨w.1.size+1,i,none⟩) Ze];rw[Ar _ _ _ Ze,GD _ _ _ _ Ze]
 .rw[hb.cell (p:=⟨w.1.size+1+1,i,none⟩) Ze];rw[GD _ _ _ _ Ze]
 .rw[hb.frozen (p:=⟨w.1.size+1,i,none⟩) Ze];rw[World.frozen?_alloc_past _ _ _ Ze,I7 _ _ _ _ Ze]
 .rw[hb.frozen (p:=⟨w.1.size+1+1,i,none⟩) Ze];rw[I7 _ _ _ _ Ze]
theorem Dj.fr{w w':World}{g hi n m lo2 hi2:Nat}{x:Nat->Ob}{r:Nat->Nat}(h:Dj w g hi n m x r)(hb:Fr lo2 hi2 w w')(ho:hi<=lo2\/hi2<=g):Dj w' g hi n m x r:=by
 have hg:g<hi:=Aa h.r0 (AA (E6 h.mono Ny Bj) h.rn);have hc:∀j,w'.cell? ⟨g,j,none⟩=w.cell? ⟨g,j,none⟩:=λj=>hb.cell (p:=⟨g,j,none⟩) (Aa hg h.hi) (by show g<_\/_<=g;omega);refine⟨⟨λj hj=>?_,λj=>(hb.frozen (p:=⟨g,j,none⟩) (Aa hg h.hi) (by show g<_\/_<=g;omega)).trans (h.room.free j),Aa h.room.lt hb.size⟩,h.r0,h.mono,h.rn,AA h.hi hb.size,λi hi'=>?_⟩;.obtain⟨u,hu⟩:=h.room.has j hj;exact⟨u,(hc j).trans hu⟩
 .obtain⟨ah,ch,c,s,cg⟩:=h.at_ i hi';have h1:r (i+1)<=hi:=AA (E6 h.mono Za Bj) h.rn;have h2:g<r i:=Aa h.r0 (E6 h.mono Ny Za);exact⟨ah,ch,c.fr (λj _=>hc _),s.fr hb (AA h1 h.hi) Za,cg.grow hb.size⟩
theorem Di.fr{w w':World}{g hi n m lo2 hi2:Nat}{x:Nat->Ch}{r:Nat->Nat}(h:Di w g hi n m x r)(hb:Fr lo2 hi2 w w')(ho:hi<=lo2\/hi2<=g):Di w' g hi n m x r:=by
 have hg:g<hi:=Aa h.r0 (AA (E6 h.mono Ny Bj) h.rn);have hc:∀j,w'.cell? ⟨g,j,none⟩=w.cell? ⟨g,j,none⟩:=λj=>hb.cell (p:=⟨g,j,none⟩) (Aa hg h.hi) (by show g<_\/_<=g;omega);refine⟨⟨λj hj=>?_,λj=>(hb.frozen (p:=⟨g,j,none⟩) (Aa hg h.hi) (by show g<_\/_<=g;omega)).trans (h.room.free j),Aa h.room.lt hb.size⟩,h.r0,h.mono,h.rn,AA h.hi hb.size,λi hi'=>?_⟩;.obtain⟨u,hu⟩:=h.room.has j hj;exact⟨u,(hc j).trans hu⟩
 .obtain⟨ah,ch,c,s⟩:=h.at_ i hi';have h1:r (i+1)<=hi:=AA (E6 h.mono Za Bj) h.rn;have h2:g<r i:=Aa h.r0 (E6 h.mono Ny Za);exact⟨ah,ch,c.fr (λj _=>hc _),s.fr hb (AA h1 h.hi) Za⟩
theorem DI.fr{w w':World}{g n m lo2 hi2:Nat}{x:Nat->Ti}(h:DI w g n m x)(hb:Fr lo2 hi2 w w')(ho:g<lo2\/hi2<=g):DI w' g n m x:=by
 have hc:∀j,w'.cell? ⟨g,j,none⟩=w.cell? ⟨g,j,none⟩:=λj=>hb.cell (p:=⟨g,j,none⟩) h.room.lt ho;refine⟨⟨λj hj=>?_,λj=>(hb.frozen (p:=⟨g,j,none⟩) h.room.lt ho).trans (h.room.free j),Aa h.room.lt hb.size⟩,λi hi'=>?_⟩;.obtain⟨u,hu⟩:=h.room.has j hj;exact⟨u,(hc j).trans hu⟩
 .have c:=h.at_ i hi';exact⟨(hc _).trans c.c0,(hc _).trans c.c1,(hc _).trans c.c2,(hc _).trans c.c3,(hc _).trans c.c4⟩
structure N0 (w:World)(lo hi:Nat)(x:Bk)(g1 g2 g3:Nat):Prop where
 ob:∃h1 r1,Dj w g1 h1 x.on x.on x.os r1/\h1<=g2
 ch:∃h2 r2,Di w g2 h2 x.hn x.hn x.hs r2/\h2<=g3
 ti:DI w g3 x.tn x.tn x.ts
 glo:lo<=g1
 ghi:g3<hi
 gtop:hi<=w.1.size
theorem BY{w1 w2:World}{a:Addr}{v:Value}(hb:Below (w1.setCell a v).1.size (w1.setCell a v) w2){p:Addr}(hp:p.block<w1.1.size)(hne:a≠p):w2.cell? p=w1.cell? p:=(hb.cell (by rw[Az];exact hp)).trans (Cq _ _ _ _ hne)
theorem Hc{w1 w2:World}{a:Addr}{v u:Value}(hb:Below (w1.setCell a v).1.size (w1.setCell a v) w2)(hp:a.block<w1.1.size)(hu:w1.cell? a=some u):w2.cell? a=some v:=(hb.cell (by rw[Az];exact hp)).trans (Ct _ _ _ hu)
theorem Dm{w1 w2:World}{a:Addr}{v:Value}(hb:Below (w1.setCell a v).1.size (w1.setCell a v) w2){p:Addr}(hp:p.block<w1.1.size):w2.frozen? p=w1.frozen? p:=(hb.frozen (by rw[Az];exact hp)).trans (Ju _ _ _ _)
structure AP (P:Nat->Prop)(w w':World):Prop where
 os:w'.os=w.os
 tape:w'.tape=w.tape
 output:w'.output=w.output
 size:w.1.size<=w'.1.size
 block:∀k,k<w.1.size->¬P k->w'.heap[k]?=w.heap[k]?
theorem AP.refl (P:Nat->Prop)(w:World):AP P w w:=⟨rfl,rfl,rfl,Aw _,λ_ _ _=>rfl⟩
theorem AP.trans{P:Nat->Prop}{a b c:World}(h:AP P a b)(k:AP P b c):AP P a c:=⟨k.os.trans h.os,k.tape.trans h.tape,k.output.trans h.output,AA h.size k.size,λi hi ho=>(k.block i (Aa hi h.size) ho).trans (h.block i hi ho)⟩
theorem Aq{P:Nat->Prop}{w w':World}(h:Below w.1.size w w'):AP P w w':=⟨h.os,h.tape,h.output,h.size,λi hi _=>h.block i hi⟩
theorem AP.mono{P Q:Nat->Prop}{w w':World}(h:AP P w w')(e:∀k,P k->Q k):AP Q w w':=⟨h.os,h.tape,h.output,h.size,λi hi hq=>h.block i hi (λhp=>hq (e i hp))⟩
theorem AP.setCell{P:Nat->Prop}{a w:World}(h:AP P a w){p:Addr}(hp:P p.block)(u:Value):AP P a (w.setCell p u):=h.trans ⟨rfl,rfl,rfl,by simp[World.setCell],λk _ ho=>Below.heap_setCell _ _ _ _ (λe=>ho (e▸hp))⟩
theorem AP.cell{P:Nat->Prop}{w w':World}(h:AP P w w'){p:Addr}(hp:p.block<w.1.size)(ho:¬P p.block):w'.cell? p=w.cell? p:=World.cell?_of_block (w:=w) (h.block p.block hp ho)
theorem AP.frozen{P:Nat->Prop}{w w':World}(h:AP P w w'){p:Addr}(hp:p.block<w.1.size)(ho:¬P p.block):w'.frozen? p=w.frozen? p:=World.frozen?_of_block (w:=w) (h.block p.block hp ho)
theorem AP.below{P:Nat->Prop}{w w':World}(h:AP P w w'){B:Nat}(hB:∀k,k<B->¬P k)(hs:B<=w.1.size):Below B w w':=⟨h.os,h.tape,h.output,h.size,λk hk=>h.block k Za (hB k hk)⟩
theorem NF{P:Nat->Prop}{lo hi:Nat}{w w':World}(h:Fr lo hi w w')(e:∀k,lo<=k->k<hi->P k):AP P w w':=⟨h.os,h.tape,h.output,h.size,λk hk ho=>h.block k hk (by
 rcases As k lo with h1|h1;.exact AD h1
 .rcases As k hi with h2|h2;.exact absurd (e k h1 h2) ho
  .exact Ax h2)⟩
theorem AP.link{P Q:Nat->Prop}{a b c:World}(h:AP P a b)(_:AP Q b c):AP P a b:=h
structure AH (w:World)(g m:Nat)(c:Nat->Value):Prop where
 lt:g<w.1.size
 free:∀j,w.frozen? ⟨g,j,none⟩=false
 cell:∀j,j<m->w.cell? ⟨g,j,none⟩=some (c j)
def D9 (c:Nat->Value)(o:Nat)(v:Value):Nat->Value:=λj=>if j=o then v else c j
theorem AH.set{w:World}{g m:Nat}{c:Nat->Value}(h:AH w g m c){o:Nat}(ho:o<m)(v:Value):AH (w.setCell ⟨g,o,none⟩ v) g m (D9 c o v):=⟨by rw[Az];exact h.lt,λj=>by rw[Ju];exact h.free j,λj hj=>by
  unfold D9;by_cases e:j=o;.subst e;rw[if_pos rfl];exact Ct _ _ _ (h.cell j hj)
  .rw[if_neg e,Cq _ _ _ _ (λq=>e (by injection q with _ q2;exact q2.symm))];exact h.cell j hj⟩
theorem AH.below{w w':World}{g m B:Nat}{c:Nat->Value}(h:AH w g m c)(hb:Below B w w')(hB:g<B):AH w' g m c:=⟨Aa h.lt hb.size,λj=>(hb.frozen (p:=⟨g,j,none⟩) hB).trans (h.free j),λj hj=>(hb.cell (p:=⟨g,j,none⟩) hB).trans (h.cell j hj)⟩
theorem AH.fr{w w':World}{g m:Nat}{c:Nat->Value}{P:Nat->Prop}(h:AH w g m c)(hb:AP P w w')(hg:¬P g):AH w' g m c:=⟨Aa h.lt hb.size,λj=>(hb.frozen (p:=⟨g,j,none⟩) h.lt hg).trans (h.free j),λj hj=>(hb.cell (p:=⟨g,j,none⟩) h.lt hg).trans (h.cell j hj)⟩
theorem AV.frP{w w':World}{b:Nat}{ad:OA}{n:Nat}{s:Nat->ByteArray}{P:Nat->Prop}(h:AV w b (b+1) ad n s)(hb:AP P w w')(hn:n≠0->¬P b/\b<w.1.size):AV w' b (b+1) ad n s:=λi hi=>by obtain⟨q,off,e1,e2,e3,e4,e5⟩:=h i hi;have:q=b:=Za;subst this;obtain⟨h1,h2⟩:=hn Za;exact⟨q,off,e1,e2,e3,(hb.cell (p:=⟨q,off+i,none⟩) h2 h1).trans e4,(hb.frozen (p:=⟨q,off+i,none⟩) h2 h1).trans e5⟩
theorem BI (k:Int)(m:Nat)(hk:k=m)(w:World)(h1:1<=k)(h2:k<=1099511627776):Calls prog 107 #[.i k] w λe w'=>e=.returned (.s (mt m))/\Below w.1.size w w':=by subst hk;exact JE m w h1 h2
theorem Mo (n:Nat)(s:Nat->ByteArray)(ad:OA)(cap:Nat)(k:Int)(m:Nat)(hk:k=m)(w:World)(b:Nat)(hlt:n≠0->b<w.1.size)(hl:(n:Int)<=1073741824)(hk1:1<=k)(hk2:k<=1073741824)(hc:AV w b (b+1) ad n s):Calls prog 108 #[.l ad n cap,.i k] w λe w'=>e=.returned (.i (k+n))/\AV w' b (b+1) ad n (λi=>mt (m+i))/\AP (λq=>n≠0/\q=b) w w':=by
 subst hk;by_cases h0:n=0;.subst h0;exact(MF 0 s ad cap m w 0 0 Ny hl hk1 hk2 (λi hi=>absurd hi (Al _))).mono λe w' ⟨e1,_,e3⟩=>⟨e1,λi hi=>absurd hi (Al _),NF e3 (λk h1 h2=>absurd h2 (Al _))⟩
 .exact(MF n s ad cap m w b (b+1) (hlt h0) hl hk1 hk2 hc).mono λe w' ⟨e1,e2,e3⟩=>⟨e1,e2,NF e3 (λk h1 h2=>⟨h0,Za⟩)⟩
theorem Mu (n:Nat)(ad:OA)(cap:Nat)(k:Int)(m:Nat)(hk:k=m)(w:World)(b:Nat)(hlt:n≠0->b<w.1.size)(hl:(n:Int)<=1073741824)(hk1:1<=k)(hk2:k<=1073741824)(hc:AV w b (b+1) ad n (λi=>mt (m+i))):Calls prog 124 #[.l ad n cap,.i k] w λe w'=>e=.returned (.i (k+n))/\Below w.1.size w w':=by
 subst hk;by_cases h0:n=0;.subst h0;exact MS 0 ad cap m w 0 0 Ny hl hk1 hk2 (λi hi=>absurd hi (Al _))
 .exact MS n ad cap m w b (b+1) (hlt h0) hl hk1 hk2 hc
structure O0 (g n:Nat)(N:Nat->Nat)(hb:Nat->Nat):Prop where
 ne:∀i,i<n->N i≠0->hb i≠g
 inj:∀i j,i<n->j<n->N i≠0->N j≠0->hb i=hb j->i=j
theorem O0.congr{g n:Nat}{N N':Nat->Nat}{hb:Nat->Nat}(h:O0 g n N hb)(e:∀i,N i=N' i):O0 g n N' hb:=by have:N=N':=funext e;subst this;exact h
theorem TX{a b:Int}(h:a=b):(a%3==0)=decide (b%3=0):=by subst h;rfl
def GA (g n:Nat)(N:Nat->Nat)(hb:Nat->Nat)(k:Nat):Prop:=(0<n/\k=g)\/∃i,i<n/\N i≠0/\k=hb i
end Go.Proofs.YtllmmkchokkaaaaGreatDoor
