import Derived.Test.YtdknjmgdgnmhjaaGreatPk15
import Derived.Deep.DeepCutAuto
import Derived.Deep.CutBlock
set_option maxRecDepth 100000
set_option maxHeartbeats 4000000
namespace Go.Proofs.YtdknjmgdgnmhjaaGreat
open Go.RowKit Go.Proofs.Tryz
variable {R z n cap p p' nn M o lo hi O ch:Nat}{W X w Y:World}{ad ah:OA}{p1 p2 p4 p7 p8 p9 Ea Ee Em D1 DW DN DU DX DO DP DV DT D9 Ef EJ Ej El Ei Ed Eh Ek Ey Ev Ew Ex EC ED Eo EW EU EK EL F9 FY F8 Ga FM Fz Fy FN Fv Gy Gx GO GI GQ Gw Gv Fu G9 Ha Hf Hd Hb Hc GL GK Hg Jr Jp Lj Lh Lf J9 Kc KL KJ KM KN KI LJ FE Gb Fi EX E0 EZ EY Fg Fh Ho Hn Hm Hq GN GP GF GG Hr Hp IP IN IJ KO KQ KR JZ JV JY:Value}{mk:(Nat→Value)→Array Value}{v:Wr}{s:Nat→ByteArray}
theorem AB.far7 (h:AB (λq=>q=R) W X) (hz:W.1.size<=z) (a b c d e f g:Value):AB (λq=>q=R) W (((((((X.setCell ⟨z,0,none⟩ a).setCell ⟨z,1,none⟩ b).setCell ⟨z,2,none⟩ c).setCell ⟨z,3,none⟩ d).setCell ⟨z,4,none⟩ e).setCell ⟨z,5,none⟩ f).setCell ⟨z,6,none⟩ g):=(h.far6 hz a b c d e f).far hz _ _
theorem Rd.far7 (hW:Rd W R ad n cap p) (hX:Rd X R ad n cap p') (hz:W.1.size<=z) (a b c d e f g:Value):Rd (((((((X.setCell ⟨z,0,none⟩ a).setCell ⟨z,1,none⟩ b).setCell ⟨z,2,none⟩ c).setCell ⟨z,3,none⟩ d).setCell ⟨z,4,none⟩ e).setCell ⟨z,5,none⟩ f).setCell ⟨z,6,none⟩ g) R ad n cap p':=hW.far (hW.far6 hX hz a b c d e f) hz _ _
def rk (R:Nat) (S hi:Nat) (B:Bk) (a1:OA) (c1:Nat) (W:World) (i:Nat) (v:Value) (X:World):Prop:=match i with
 |0=>v=.p S 2
 |1=>v=.l a1 B.on c1
 |2=>v=.p R 0
 |3=>v=.p S 2
 |4=>v=.l a1 B.on c1
 |5=>v=.i (B.on:Nat)
 |6=>∃k:Nat,k<B.on/\v=.i k
 |7=>∃k b off:Nat,k<B.on/\a1=some ⟨b,off,none⟩/\v=.pointer (some ⟨b,off+k*7,none⟩)
 |8=>∃(k:Nat) (ah:OA) (ch:Nat),k<B.on/\v=.agg (vO (B.os k) ah ch)/\AK W 0 hi ah (B.os k).hn (B.os k).hs
 |9=>∃z:Nat,v=.p z 0/\W.1.size<=z/\AE X z 7 (AV [.s ⟨#[]⟩,.s ⟨#[]⟩,.i 0,.i 0,.s ⟨#[]⟩,.bool false,.l none 0 0])
 |_=>True
theorem Abn{p5 In Ik Im Hj He G8 Hi Hh Ie J8:Value}(t0:Nat->Value) (R:Nat) (ad:OA) (nn cap p:Nat) (S hi:Nat) (B:Bk) (a1:OA) (c1:Nat) (W:World) (hr:Rd W R ad nn cap p) (hp:p<=900000) (hS:S<W.1.size) (hSR:¬S=R) (lE:W.cell? ⟨S,2,none⟩=some (.slice a1 B.on c1)) (ho:Bh W 0 hi a1 B.on B.os) (CD:hi<=W.1.size) (LU:0<B.on) (Mz:B.on<=100) (Dg:mk=λt=>#[.p R 0,p1,p2,.p S 0,p4,p5,t 9,p7,p8,p9,Ea,Ee,Em,D1,DW,DN,DU,DX,DO,DP,DV,DT,D9,Ef,EJ,Ej,El,Ei,Ed,Eh,Ek,Ey,Ev,Ew,Ex,t 0,t 1,t 2,t 3,t 4,t 5,t 6,t 7,t 8,EC,ED,Eo,EW,EU,EK,EL,F9,FY,F8,Ga,FM,Fz,Fy,FN,Fv,Gy,Gx,GO,GI,GQ,Gw,Gv,Fu,G9,Ha,Hf,Hd,Hb,Hc,GL,GK,Hg,In,Ik,Im,Hj,He,G8,Hi,Hh,Ie,J8,Jr,Jp,Lj,Lh,Lf,J9,Kc,KL,KJ,KM,KN,KI,LJ,FE,Gb,Fi,EX,E0,EZ,EY,Fg,Fh,Ho,Hn,Hm,Hq,GN,GP,GF,GG,Hr,Hp,IP,IN,IJ,KO,KQ,KR,JZ,JV,JY]) (Q:Exit->Act->World->Prop) (hQ:∀(t:Nat->Value) (z k:Nat) (ah:OA) (ch:Nat) (pz:Nat) X,t 9=.p z 0->W.1.size<=z->k<B.on->AK W 0 hi ah (B.os k).hn (B.os k).hs->AE X z 7 (AV (Qz (B.os k) ah ch))->AB (λq=>q=R) W X->p<=pz->pz<=p+10->Rd X R ad nn cap pz->Q .normal ⟨mk t,[]⟩ X):Code.wp prog (rg Tryz.f31 3) Q ⟨mk t0,[]⟩ W:=by
 have Le:=hr.lt;refine QC Zc 10 mk t0 R ad nn cap p (rk R S hi B a1 c1 W) (λa X=>∃(t:Nat->Value) (z k:Nat) (ah:OA) (ch:Nat) (pz:Nat),a=⟨mk t,[]⟩/\t 9=.p z 0/\W.1.size<=z/\k<B.on/\AK W 0 hi ah (B.os k).hn (B.os k).hs/\AE X z 7 (AV (Qz (B.os k) ah ch))/\AB (λq=>q=R) W X/\p<=pz/\pz<=p+10/\Rd X R ad nn cap pz) Zc Zc Zc ?_ rfl hr ?_ ?_ ?_;all_goals subst Dg
 .exact ye
 .exact Af1
 .exact Af6
 .exact X_
def dw (R O M:Nat) (ah:OA) (hn ch:Nat) (hs:Nat->ByteArray) (i:Nat) (v:Value) (_X:World):Prop:=match i with
 |0=>v=.p O 6
 |1=>v=.l ah hn ch
 |2=>v=.p R 0
 |3=>v=.p O 6
 |4=>v=.l ah hn ch
 |5=>v=.i (hn:Nat)
 |6=>∃k:Nat,k<hn/\v=.i k
 |7=>∃k b off:Nat,k<hn/\ah=some ⟨b,off,none⟩/\v=.pointer (some ⟨b,off+k,none⟩)
 |8=>∃k:Nat,k<hn/\v=.s (hs k)
 |9=>v=.p M 5
 |_=>True
theorem oo{p3 EM EH EI EV Er EB ER ES EQ:Value}(t0:Nat->Value) (R:Nat) (ad:OA) (nn cap p:Nat) (O M hi:Nat) (ah:OA) (hn ch:Nat) (hs:Nat->ByteArray) (W:World) (hr:Rd W R ad nn cap p) (hp:p<=900000) (hO:O<W.1.size) (hOR:¬O=R) (hcO:W.cell? ⟨O,6,none⟩=some (.slice ah hn ch)) (hM:M<W.1.size) (hMR:¬M=R) (u:Value) (hcM:W.cell? ⟨M,5,none⟩=some u) (hfM:W.frozen? ⟨M,5,none⟩=false) (ho:AK W 0 hi ah hn hs) (CD:hi<=W.1.size) (LU:0<hn) (Mz:hn<=100) (Dg:mk=λt=>#[.p R 0,p1,p2,p3,p4,.p M 0,.p O 0,p7,p8,p9,Ea,Ee,Em,D1,DW,DN,DU,DX,DO,DP,DV,DT,D9,Ef,EJ,Ej,El,Ei,Ed,Eh,Ek,Ey,Ev,Ew,Ex,EM,EH,EI,EV,Er,EB,ER,ES,EQ,EC,ED,Eo,EW,EU,EK,EL,F9,FY,F8,Ga,FM,Fz,Fy,FN,Fv,Gy,Gx,GO,GI,GQ,Gw,Gv,Fu,G9,Ha,Hf,Hd,Hb,Hc,GL,GK,Hg,t 0,t 1,t 2,t 3,t 4,t 5,t 6,t 7,t 8,t 9,Jr,Jp,Lj,Lh,Lf,J9,Kc,KL,KJ,KM,KN,KI,LJ,FE,Gb,Fi,EX,E0,EZ,EY,Fg,Fh,Ho,Hn,Hm,Hq,GN,GP,GF,GG,Hr,Hp,IP,IN,IJ,KO,KQ,KR,JZ,JV,JY]) (Q:Exit->Act->World->Prop) (hQ:∀(t:Nat->Value) (k:Nat) (pz:Nat) (X0:World),k<hn->AB (λq=>q=R) W X0->p<=pz->pz<=p+10->Rd X0 R ad nn cap pz->Q .normal ⟨mk t,[]⟩ (X0.setCell ⟨M,5,none⟩ (.s (hs k)))):Code.wp prog (rg Tryz.f31 12) Q ⟨mk t0,[]⟩ W:=by
 have Le:=hr.lt;refine QC Zc 10 mk t0 R ad nn cap p (dw R O M ah hn ch hs) (λa X=>∃(t:Nat->Value) (k:Nat) (pz:Nat) (X0:World),a=⟨mk t,[]⟩/\k<hn/\X=X0.setCell ⟨M,5,none⟩ (.s (hs k))/\AB (λq=>q=R) W X0/\p<=pz/\pz<=p+10/\Rd X0 R ad nn cap pz) Zc Zc Zc ?_ rfl hr ?_ ?_ ?_;all_goals subst Dg
 .exact λ_ _ _ _ _ h _ _ _=>h
 .intro i hi t X K p' hb CO Dj AW hg hK;rcases(Va i Za)with rfl|rfl|rfl|rfl|rfl|rfl|rfl|rfl|rfl|rfl;.exact Di
  .have AY:t 0=_:=hg 0 (AR rfl);have cS:=(hb.cell (p:=⟨O,6,none⟩) hO hOR).trans hcO;exact MJ
  .exact Di
  .exact Di
  .have AY:t 3=_:=hg 3 (AR rfl);have cS:=(hb.cell (p:=⟨O,6,none⟩) hO hOR).trans hcO;exact MJ
  .have AY:t 4=_:=hg 4 (AR rfl);exact MJ
  .have AY:t 2=_:=hg 2 (AR rfl);have Ff:t 5=_:=hg 5 (AR rfl);refine Au rfl rfl ?_;have HK:=Ab hK;have HR:=Ab AW;clear hK hg AW;go_simp;go_at_call 16;refine(Bt R ad nn cap p' (hn:Nat) X HR Za Za Za).mono ?_;rintro r Y ⟨v,rfl,_,hv,hf,Me⟩;have h:=HK (.i v) Y (p'+1) Za A9 ⟨v,by have:=hv Za;omega,rfl⟩ hf Me;exact LN
  .have AY:t 1=_:=hg 1 (AR rfl);obtain⟨k,hk,e6⟩:=hg 6 (AR rfl);obtain⟨b,off,ea,_,_,_⟩:=ho k hk;rw[ea]at AY;have h:=hK (.pointer (some ⟨b,off+k,none⟩)) X p' A9 Za ⟨k,b,off,hk,ea,rfl⟩ (AB.refl _ _) AW;refine Au rfl rfl ?_;clear hK hg;go_simp;simpa[AX,AY,e6]using h
  .obtain⟨k,b,off,hk,ea,e7⟩:=hg 7 (AR rfl);obtain⟨b',off',ea',_,C6,hc⟩:=ho k hk;rw[ea]at ea';obtain⟨rfl,rfl⟩:b=b'/\off=off':=by simpa using ea'
   have CF:¬b=R:=OJ hr.ns hc;have q0:=(hb.cell (p:=⟨b,off+k,none⟩) Zcp CF).trans hc;have h:=hK (.s (hs k)) X p' A9 Za ⟨k,hk,rfl⟩ (AB.refl _ _) AW;refine Au rfl rfl ?_;clear hK hg hc;go_simp;simpa[AX,e7]using h
  .exact Di
 .intro t X K p' hb CO Dj AW hg hK;obtain⟨k,hk,e8⟩:=hg 8 Za;have AY:t 9=_:=hg 9 Za;have cM:=(hb.cell (p:=⟨M,5,none⟩) hM hMR).trans hcM;have fM:=(hb.frozen (p:=⟨M,5,none⟩) hM hMR).trans hfM;have zM:M<X.1.size:=Aa hM hb.size;have h:=hK _ _ ⟨t,k,p',X,rfl,hk,rfl,hb,CO,Dj,AW⟩;have HK:=Ab h;clear hK hg h;refine Au rfl rfl ?_;go_simp;simpa[e8,AY]using HK.out
 .rintro a X ⟨t,k,pz,X0,rfl,a1,rfl,a2,a3,a4,a5⟩;exact hQ t k pz X0 a1 a2 a3 a4 a5
def wv (v:Wr):List Value:=(vWl v)
structure aE (v:Wr):Prop where
 fit:Q7 v
 o1:1<=v.op
 o5:v.op<=5
 s1:v.s<=9223372036854775807
structure jl (w:World) (R:Nat) (ad:OA) (nn cap p M:Nat) (v:Wr) (X:World):Prop where
 m:AE X M 6 (AV (wv v))f:AB (λq=>q=R) w X
 r:Rd X R ad nn cap p
 M0:w.1.size<=M
 i:aE v
theorem jl.pick (h:jl w R ad nn cap p M v X) (hf:AB (λq=>q=R) X Y) (hr:Rd Y R ad nn cap p') (hR:R<w.1.size):jl w R ad nn cap p' M v Y:=⟨h.m.fr2 hf (by have:=h.M0;omega),h.f.trans hf,hr,h.M0,h.i⟩
theorem jl.set (h:jl w R ad nn cap p M v X) (h0:Rd w R ad nn cap 0\/∃q,Rd w R ad nn cap q) (ho:o<6) (u:Value) (v':Wr) (hi:aE v') (e:∀j,j<6->GR (AV (wv v)) o u j=AV (wv v') j):jl w R ad nn cap p M v' (X.setCell ⟨M,o,none⟩ u):=by obtain⟨q,hq⟩:∃q,Rd w R ad nn cap q:=h0.elim (λx=>⟨0,x⟩) id;exact⟨(h.m.set ho u).congr e,h.f.far h.M0 _ _,hq.far h.r h.M0 _ _,h.M0,hi⟩
theorem jl.cells (h:jl w R ad nn cap p M v X):X.cell? ⟨M,0,none⟩=some (.i v.op)/\X.cell? ⟨M,1,none⟩=some (.s v.k)/\X.cell? ⟨M,2,none⟩=some (.s v.n)/\X.cell? ⟨M,3,none⟩=some (.i v.s)/\X.cell? ⟨M,4,none⟩=some (.s v.m)/\X.cell? ⟨M,5,none⟩=some (.s v.hold)/\(∀j,X.frozen? ⟨M,j,none⟩=false)/\M<X.1.size:=⟨h.m.cell 0 Zb,h.m.cell 1 Zb,h.m.cell 2 Zb,h.m.cell 3 Zb,h.m.cell 4 Zb,h.m.cell 5 Zb,h.m.free,h.m.lt⟩
def DrW (R:Nat) (ad:OA) (nn cap p:Nat) (w:World) (e:Ending) (w':World):Prop:=∃v:Wr,e=.returned (.agg (vW v))/\aE v/\Dn R ad nn cap p 60 w w'
def C2 (W:World) (R:Nat) (ad:OA) (nn cap p k M:Nat) (X:World):Prop:=∃v p',p<=p'/\p'<=p+k/\jl W R ad nn cap p' M v X
structure L2B (w:World) (B:Bk) (R:Nat) (ad:OA) (nn cap p:Nat) (a1 a2 a3:OA) (c1 c2 c3:Nat) (W:World):Prop where
 b:Below w.1.size w W
 z:W.1.size=w.1.size+2
 s:AE W w.1.size 5 (AV (JR B a1 a2 a3 c1 c2 c3))a:AE W (w.1.size+1) 6 (AV [.i 0,.s ⟨#[]⟩,.s ⟨#[]⟩,.i 0,.s ⟨#[]⟩,.s ⟨#[]⟩])r:Rd W R ad nn cap p
 i:BL W 0 w.1.size B a1 a2 a3
theorem py (w:World) (B:Bk) (R:Nat) (ad:OA) (nn cap p:Nat) (a1 a2 a3:OA) (c1 c2 c3:Nat) (hr:Rd w R ad nn cap p) (hc:BL w 0 w.1.size B a1 a2 a3):L2B w B R ad nn cap p a1 a2 a3 c1 c2 c3 ((w.alloc (.cells (vB B a1 a2 a3 c1 c2 c3) 36)).alloc (.cells #[.i 0,.s ⟨#[]⟩,.s ⟨#[]⟩,.i 0,.s ⟨#[]⟩,.s ⟨#[]⟩] 76)):=by
 have hb:Below w.1.size w ((w.alloc (.cells (vB B a1 a2 a3 c1 c2 c3) 36)).alloc (.cells #[.i 0,.s ⟨#[]⟩,.s ⟨#[]⟩,.i 0,.s ⟨#[]⟩,.s ⟨#[]⟩] 76)):=((Ap _ _).alloc A9 _).alloc Ze _;refine⟨hb,Ze,?_,?_,hr.below hb,hc.below hb A9⟩;.exact AE.new (l:=(JR B a1 a2 a3 c1 c2 c3)) Do
 .have h:=AE.new (w:=w.alloc (.cells (vB B a1 a2 a3 c1 c2 c3) 36)) (l:=[.i 0,.s ⟨#[]⟩,.s ⟨#[]⟩,.i 0,.s ⟨#[]⟩,.s ⟨#[]⟩]) (t:=76) Dx;rw[Av]at h;exact h
theorem iW (h:AK X lo hi ad n s) (hf:AB (λq=>q=R) W X) (hn:∀j s,¬X.cell? ⟨R,j,none⟩=some (.s s)) (hh:hi<=W.1.size):AK W lo hi ad n s:=λi hi'=>by obtain⟨b,off,e1,e2,e3,e4⟩:=h i hi';refine⟨b,off,e1,e2,e3,?_⟩;have CF:¬b=R:=λe=>hn _ _ (e▸e4);exact(hf.cell (p:=⟨b,off+i,none⟩) Zcp CF).symm.trans e4
theorem fj (h:AK W lo hi ad n s) (hf:AB (λq=>q=R) W X) (hn:∀j s,¬W.cell? ⟨R,j,none⟩=some (.s s)) (hh:hi<=W.1.size):AK X lo hi ad n s:=λi hi'=>by obtain⟨b,off,e1,e2,e3,e4⟩:=h i hi';refine⟨b,off,e1,e2,e3,?_⟩;have CF:¬b=R:=λe=>hn _ _ (e▸e4);exact(hf.cell (p:=⟨b,off+i,none⟩) Zcp CF).trans e4
def oc (o:Ob) (ah:OA) (ch:Nat):List Value:=(Qz o ah ch)
structure jd (W:World) (R:Nat) (ad:OA) (nn cap p M O:Nat) (o:Ob) (ah:OA) (ch:Nat) (v:Wr) (X:World):Prop where
 l:jl W R ad nn cap p M v X
 o:AE X O 7 (AV (oc o ah ch))ne:¬O=M
 O0:W.1.size<=O
theorem jd.pick{o:Ob}(h:jd w R ad nn cap p M O o ah ch v X) (hf:AB (λq=>q=R) X Y) (hr:Rd Y R ad nn cap p') (hR:R<w.1.size):jd w R ad nn cap p' M O o ah ch v Y:=⟨h.l.pick hf hr hR,h.o.fr2 hf (by have:=h.O0;omega),h.ne,h.O0⟩
theorem jd.set{p0:Nat}{x:Ob}(h:jd w R ad nn cap p M O x ah ch v X) (h0:Rd w R ad nn cap p0) (ho:o<6) (u:Value) (v':Wr) (hi:aE v') (e:∀j,j<6->GR (AV (wv v)) o u j=AV (wv v') j):jd w R ad nn cap p M O x ah ch v' (X.setCell ⟨M,o,none⟩ u):=⟨h.l.set (Az ⟨_,h0⟩) ho u v' hi e,h.o.fr ((AB.refl (λq=>q=M) X).setCell (p:=⟨M,o,none⟩) rfl u) h.ne,h.ne,h.O0⟩
theorem jd.cells{o:Ob}(h:jd w R ad nn cap p M O o ah ch v X):X.cell? ⟨O,0,none⟩=some (.s o.k)/\X.cell? ⟨O,1,none⟩=some (.s o.n)/\X.cell? ⟨O,2,none⟩=some (.i o.t)/\X.cell? ⟨O,6,none⟩=some (.slice ah o.hn ch)/\O<X.1.size:=⟨h.o.cell 0 Zb,h.o.cell 1 Zb,h.o.cell 2 Zb,h.o.cell 6 Zb,h.o.lt⟩
def C3 (W:World) (R:Nat) (ad:OA) (nn cap p k M O:Nat) (o:Ob) (ah:OA) (ch:Nat) (X:World):Prop:=∃v p',p<=p'/\p'<=p+k/\jd W R ad nn cap p' M O o ah ch v X
theorem aN{u:Value}{v':Wr}(h0:(if 0=o then u else .i v.op)=.i v'.op:=by rfl) (h1:(if 1=o then u else .s v.k)=.s v'.k:=by rfl) (h2:(if 2=o then u else .s v.n)=.s v'.n:=by rfl) (h3:(if 3=o then u else .i v.s)=.i v'.s:=by rfl) (h4:(if 4=o then u else .s v.m)=.s v'.m:=by rfl) (h5:(if 5=o then u else .s v.hold)=.s v'.hold:=by rfl):∀j,j<6->GR (AV (wv v)) o u j=AV (wv v') j:=λj hj=>by
 rcases(ae j Za)with rfl|rfl|rfl|rfl|rfl|rfl;.exact h0
 .exact h1
 .exact h2
 .exact h3
 .exact h4
 .exact h5
theorem Ah7{g:Nat}{c:Nat->Value}(h:AE w g 6 c) (a0 a1 a2 a3 a4 a5:Value):AE ((((((w.setCell ⟨g,0,none⟩ a0).setCell ⟨g,1,none⟩ a1).setCell ⟨g,2,none⟩ a2).setCell ⟨g,3,none⟩ a3).setCell ⟨g,4,none⟩ a4).setCell ⟨g,5,none⟩ a5) g 6 (AV [a0,a1,a2,a3,a4,a5]):=((((((h.set Zb a0).set Zb a1).set Zb a2).set Zb a3).set Zb a4).set Zb a5).congr (λj hj=>by rcases(ae j Za)with rfl|rfl|rfl|rfl|rfl|rfl<;>rfl)
theorem iR{w3:World}{y:Nat}(hf:AB (λq=>q=R) (w.alloc (.cells #[.s ⟨#[104]⟩,.s ⟨#[104,50]⟩,.s ⟨#[107,101,101,112,101,114]⟩,.s ⟨#[97]⟩,.s ⟨#[98]⟩,.s ⟨#[99]⟩] 9)) w3) (hR:¬w.1.size=R) (hy:(y:Int)<6):∃s:ByteArray,(s.size:Int)<=140737488355328/\w3.cell? ⟨w.1.size,y,none⟩=some (.s s):=by have e:=hf.cell (p:=⟨w.1.size,y,none⟩) Ze hR;have n:(w.alloc (.cells #[.s ⟨#[104]⟩,.s ⟨#[104,50]⟩,.s ⟨#[107,101,101,112,101,114]⟩,.s ⟨#[97]⟩,.s ⟨#[98]⟩,.s ⟨#[99]⟩] 9)).cell? ⟨w.1.size,y,none⟩=_:=Al w #[.s ⟨#[104]⟩,.s ⟨#[104,50]⟩,.s ⟨#[107,101,101,112,101,114]⟩,.s ⟨#[97]⟩,.s ⟨#[98]⟩,.s ⟨#[99]⟩] 9 y;rw[e,n];rcases(ae y Za)with rfl|rfl|rfl|rfl|rfl|rfl;all_goals exact⟨_,Zb,rfl⟩
theorem c'{x:Int}(h:(Lit.int .i64 x).wf=true):x<=9223372036854775807:=by simp[Lit.wf]at h;omega
theorem wb:((⟨#[]⟩:ByteArray).size:Int)<=140737488355328:=Zb
theorem Afd{s:ByteArray}(h:s∈iJ):(s.size:Int)<=140737488355328:=by simp only[iJ,CU,Lx,or_false]at h;rcases h with rfl|rfl|rfl<;>decide
theorem Afk{s:ByteArray}(h:s∈i8):(s.size:Int)<=140737488355328:=by simp only[i8,CU,Lx,or_false]at h;rcases h with rfl|rfl|rfl|rfl<;>decide
theorem M8 (B:Bk) (R:Nat) (ad:OA) (nn cap p:Nat) (a1 a2 a3:OA) (c1 c2 c3:Nat) (w:World) (hr:Rd w R ad nn cap p) (hp:p<=800000) (hf:BS B) (GJ:B.on<=100) (hh:∀i,i<B.on->(B.os i).hn<=100) (hc:BL w 0 w.1.size B a1 a2 a3):Calls prog 31 #[.p R 0,.agg (vB B a1 a2 a3 c1 c2 c3)] w λe w'=>DrW R ad nn cap p w e w':=by
 have HB:=Ab (py w B R ad nn cap p a1 a2 a3 c1 c2 c3 hr hc);have HF:=Ab hf;have HH:=Ab hh;have Ic:=hr.lt;have HR:=Ab hr;clear hr hc hf hh;go_enter func31,ntmps31;go_wp2_with fail;generalize(w.alloc (.cells (vB B a1 a2 a3 c1 c2 c3) 36)).alloc (.cells #[.i 0,.s ⟨#[]⟩,.s ⟨#[]⟩,.i 0,.s ⟨#[]⟩,.s ⟨#[]⟩] 76)=W at HB⊢;have hzW:=HB.z;refine Aay (λ_=>undef) R ad nn cap p W HB.r Za rfl _ ?_;intro t M k s1 s2 pz X ht hM hk h1 h2 By Te CO Dj AW;rw[ht];have HL:=Ab (show C2 W R ad nn cap p 15 M X from⟨⟨1+(k:Int),s1,s2,0,⟨#[]⟩,⟨#[]⟩⟩,pz,CO,Dj,By,Te,AW,hM,⟨⟨Afd h1,Afk h2,wb,wb⟩,by show(1:Int)<=1+k;omega,by show(1:Int)+k<=5;omega,by show(0:Int)<=_;omega⟩⟩);clear By Te AW ht h1 h2 hk;go_upto_region 2 with fail;go_cut[34](λc wx=>∃b:Bool,c=.bool b/\(b=true->0<B.on)/\C2 W R ad nn cap p 16 M wx);case first=>
  --<r2
  obtain⟨v,q,GM,Lz,hL⟩:=HL.out;clear HL;obtain⟨r0,r1,r2,r3,r4,r5,rf,rl⟩:=hL.cells;have hS:=hL.f.cell (p:=⟨w.1.size,2,none⟩) (by show w.1.size<W.1.size;omega) (show¬w.1.size=R by omega);rw[show W.cell? ⟨w.1.size,2,none⟩=some (.slice a1 B.on c1)from HB.s.cell 2 Zb]at hS;have HL:=Ab hL;clear hL r1 r2 r3 r4 r5 rf;go_wp2_with (go_at_call 16;go_must(refine(Bt R ad nn cap _ 6 _ HL.r Za Zb Zb).mono ?_;rintro e w3 ⟨y,rfl,_,hy,FP,Gi⟩));all_goals go_meet
  case rel=>exact⟨_,rfl,λh=>Ns,v,q,GM,Za,HL⟩
  case rel=>exact⟨_,rfl,λ_=>Za,v,q+1,Za,Za,HL.pick FP Gi Za⟩
  case rel=>exact⟨_,rfl,λh=>Ns,v,q,GM,Za,HL⟩
  --r2>
 case rest=>
  obtain⟨b,rfl,FV,hL⟩:=hcut;have HL':=Ab hL;clear hL HL;go_upto_if 34 with fail;go_cut[](λwx=>C2 W R ad nn cap p 45 M wx);case first=>obtain⟨v,q,GM,Lz,hL⟩:=HL'.out;cases b with
   |false=>go_wp2_with fail;go_meet;case rel=>exact⟨v,q,GM,Za,hL⟩
   |true=>
    --<ob
    have AU:=FV rfl;clear FV;go_wp2_with fail;have HL:=Ab hL;have hMW:=hL.M0;clear hL HL';have lE:=HL.f.cell (p:=⟨w.1.size,2,none⟩) (by show w.1.size<W.1.size;omega) (show¬w.1.size=R by omega);rw[show W.cell? ⟨w.1.size,2,none⟩=some (.slice a1 B.on c1)from HB.s.cell 2 Zb]at lE;have VF:=HL.f.size;refine Abn (AV [_,_,_,_,_,_,_,_,_,_]) R ad nn cap q w.1.size w.1.size B a1 c1 _ HL.r Za Za Za lE (HB.i.box HL.f HB.r.ns Za).o Za AU GJ rfl _ ?_;intro t O k ah ch q2 X2 ht hO hk hs By Te hp3 hp4 AW;rw[ht];have hSW:=iW hs HL.f HL.r.ns Za;have hMX:=HL.m.lt;have HT:=Ab (show jd W R ad nn cap q2 M O (B.os k) ah ch v X2 from⟨HL.pick Te AW Za,By,Za,Za⟩);have hfo:=HF.os k hk;have hhn:=HH k hk;have HSW:=Ab hSW;have Ke:=Ab hfo;clear hs By Te AW ht lE HL hSW hfo;obtain⟨o0,o1,o2,o6,ol⟩:=HT.cells;obtain⟨r0,r1,r2,r3,r4,r5,rf,rl⟩:=HT.l.cells;have rf1:=rf 1;have rf2:=rf 2;clear rf o2 o6 r3 r4 r5 r0;have Ado:=HT.ne;have HT2:=Ab ((HT.set HB.r (o:=1) Zb (.s (B.os k).k) {v with k:=(B.os k).k} ⟨⟨Ke.k,HT.l.i.fit.n,HT.l.i.fit.t,HT.l.i.fit.h⟩,HT.l.i.o1,HT.l.i.o5,HT.l.i.s1⟩ (aN)).set HB.r (o:=2) Zb (.s (B.os k).n) {v with k:=(B.os k).k,n:=(B.os k).n} ⟨⟨Ke.k,Ke.n,HT.l.i.fit.t,HT.l.i.fit.h⟩,HT.l.i.o1,HT.l.i.o5,HT.l.i.s1⟩ (aN));clear HT;go_upto_region 6 with fail;generalize(X2.setCell ⟨M,1,none⟩ (.s (B.os k).k)).setCell ⟨M,2,none⟩ (.s (B.os k).n)=X3 at HT2⊢;clear o0 o1 r1 r2 rf1 rf2 ol rl Ado;go_upto_block 0 with(go_at_call 16;go_must(refine(Bt R ad nn cap _ 5 _ HT2.l.r Za Zb Zb).mono ?_;rintro e w3 ⟨y,rfl,_,hy,FP,Gi⟩));have rB:=Ab (HT2.pick FP Gi Za);clear HT2 FP Gi;go_cut[](λwx=>C3 W R ad nn cap p 30 M O (B.os k) ah ch wx);case first=>
     obtain⟨r0,r1,r2,r3,r4,r5,rf,rl⟩:=rB.l.cells;obtain⟨o0,o1,o2,o6,ol⟩:=rB.cells;have rf3:=rf 3;clear rf r0 r1 r2 r4 r5 o0 o1 o6;go_wp2_with (go_at_call 16;go_must(refine(Bt R ad nn cap _ 20 _ rB.l.r Za Zb Zb).mono ?_;rintro e w4 ⟨y4,rfl,_,hy4,gE,hr4⟩;have lC:=Ab (rB.pick gE hr4 Za);have r34:=lC.l.cells.2.2.2.1;have Ajo:=lC.l.m.free 3;have Ag2:=hy4 Zb));all_goals go_meet
     case rel=>exact⟨_,_,Za,Za,rB⟩
     case rel=>exact⟨_,_,Za,Za,lC.set HB.r (o:=3) Zb _ {v with k:=(B.os k).k,n:=(B.os k).n,s:=1+(y4:Int)} ⟨⟨Ke.k,Ke.n,lC.l.i.fit.t,lC.l.i.fit.h⟩,lC.l.i.o1,lC.l.i.o5,by show 1+(y4:Int)<=_;omega⟩ (aN)⟩
     case rel=>exact⟨_,_,Za,Za,rB.set HB.r (o:=3) Zb _ {v with k:=(B.os k).k,n:=(B.os k).n,s:=(B.os k).t} ⟨⟨Ke.k,Ke.n,rB.l.i.fit.t,rB.l.i.fit.h⟩,rB.l.i.o1,rB.l.i.o5,c' Ke.v⟩ (aN)⟩
    case rest=>
     have lC:=Ab hcut;clear hcut rB;go_upto_region 11 with fail;go_cut[76](λc wx=>∃b:Bool,c=.bool b/\(b=true->0<(B.os k).hn)/\C3 W R ad nn cap p 31 M O (B.os k) ah ch wx);case first=>
      obtain⟨v4,q4,Ai1,Ajv,hT⟩:=lC.out;have Ph:=Ab hT;obtain⟨r0,r1,r2,r3,r4,r5,rf,rl⟩:=hT.l.cells;obtain⟨o0,o1,o2,o6,ol⟩:=hT.cells;clear hT rf r1 r2 r3 r4 r5 o0 o1 o2 lC;go_wp2_with (go_at_call 16;go_must(refine(Bt R ad nn cap _ 4 _ Ph.l.r Za Zb Zb).mono ?_;rintro e w3 ⟨y,rfl,_,hy,FP,Gi⟩));all_goals go_meet
      case rel=>exact⟨_,rfl,λ_=>Za,v4,q4+1,Za,Za,Ph.pick FP Gi Za⟩
      case rel=>exact⟨_,rfl,λh=>Ns,v4,q4,Za,Za,Ph⟩
      case rel=>exact⟨_,rfl,λh=>Ns,v4,q4,Za,Za,Ph⟩
     case rest=>obtain⟨b,rfl,FV,hT⟩:=hcut;obtain⟨v5,q5,Ai5,Ajm,hT⟩:=hT;have Ph:=Ab hT;clear hT lC;cases b with
      |false=>go_wp2_with fail;go_meet;case rel=>exact⟨v5,q5,Za,Za,Ph.l⟩
      |true=>have BT:=FV rfl;clear FV;go_wp2_with fail;have hO0:=Ph.O0;have hM0:=Ph.l.M0;have Aja:=Ph.l.f.size;refine oo (AV [_,_,_,_,_,_,_,_,_,_]) R ad nn cap q5 O M w.1.size ah (B.os k).hn ch (B.os k).hs _ Ph.l.r Za Ph.o.lt Za (Ph.o.cell 6 Zb) Ph.l.m.lt Za _ (Ph.l.m.cell 5 Zb) (Ph.l.m.free 5) (fj HSW Ph.l.f HB.r.ns Za) Za BT hhn rfl _ ?_;intro t j q6 X6 hj gp hp6 hp7 uo;go_wp2_with fail;go_meet;case rel=>exact⟨_,q6,Za,Za,((Ph.pick gp uo Za).set HB.r (o:=5) Zb _ {v5 with hold:=(B.os k).hs j} ⟨⟨Ph.l.i.fit.k,Ph.l.i.fit.n,Ph.l.i.fit.t,Ke.s j hj⟩,Ph.l.i.o1,Ph.l.i.o5,Ph.l.i.s1⟩ (aN)).l⟩
    --ob>
  case rest=>
   have HM:=Ab hcut;clear hcut HL';go_upto_region 13 with fail;go_cut[94](λc wx=>∃b:Bool,c=.bool b/\C2 W R ad nn cap p 45 M wx);case first=>
    obtain⟨v,q,GM,Lz,hL⟩:=HM.out;obtain⟨r0,r1,r2,r3,r4,r5,rf,rl⟩:=hL.cells;have HL:=Ab hL;clear hL HM r1 r2 r3 r4 r5 rf;go_wp2_with fail;all_goals go_meet
    all_goals exact⟨_,rfl,v,q,Za,Za,HL⟩
   case rest=>
    obtain⟨b,rfl,hL⟩:=hcut;have Up:=Ab hL;clear hL HM;go_upto_if 94 with fail;go_cut[](λwx=>C2 W R ad nn cap p 50 M wx);case first=>obtain⟨v,q,GM,Lz,hL⟩:=Up.out;have HL:=Ab hL;clear hL Up;cases b with
     |false=>go_wp2_with fail;go_meet;case rel=>exact⟨v,q,Za,Za,HL⟩
     |true=>obtain⟨r0,r1,r2,r3,r4,r5,rf,rl⟩:=HL.cells;clear r0 r1 r2 r3 r4 r5 rf rl;go_wp2_with (go_at_call 60;go_must(refine(zJ R ad nn cap _ _ HL.r Za).mono ?_;rintro e w3 ⟨s,rfl,hs3,FP,q3,Aab,Ahw,Gi⟩;have MI:=Ab (HL.pick FP Gi Za);have r43:=MI.cells.2.2.2.2.1;have Ai2:=MI.m.free 4));go_meet;case rel=>exact⟨_,q3,Za,Za,MI.set (Az ⟨_,HB.r⟩) (o:=4) Zb _ {v with m:=s} ⟨⟨HL.i.fit.k,HL.i.fit.n,by show(s.size:Int)<=_;omega,HL.i.fit.h⟩,HL.i.o1,HL.i.o5,HL.i.s1⟩ (aN)⟩
    case rest=>
     have VE:=Ab hcut;clear hcut Up;go_upto_region 15 with fail;go_cut[120](λc wx=>∃b:Bool,c=.bool b/\C2 W R ad nn cap p 52 M wx);case first=>
      --<r15
      obtain⟨v,q,GM,Lz,hL⟩:=VE.out;obtain⟨r0,r1,r2,r3,r4,r5,rf,rl⟩:=hL.cells;have HL:=Ab hL;clear hL VE r1 r2 r3 r4 rf;go_wp2_with (go_at_call 16;go_must(refine(Bt R ad nn cap _ 3 _ HL.r Za Zb Zb).mono ?_;rintro e w3 ⟨y,rfl,_,hy,FP,Gi⟩));all_goals go_meet
      all_goals first|exact⟨_,rfl,v,q,Za,Za,HL⟩|exact⟨_,rfl,v,q+1,Za,Za,HL.pick FP Gi Za⟩
      --r15>
     case rest=>
      obtain⟨b,rfl,hL⟩:=hcut;have HM4:=Ab hL;clear hL VE;go_upto_if 120 with fail;go_cut[](λwx=>C2 W R ad nn cap p 55 M wx);case first=>obtain⟨v,q,GM,Lz,hL⟩:=HM4.out;have HL:=Ab hL;clear hL HM4;cases b with
       |false=>go_wp2_with fail;go_meet;case rel=>exact⟨v,q,Za,Za,HL⟩
       |true=>have hMl:=HL.m.lt;have hzc:=HL.f.size;have hxb:∀o,Below wc.1.size wc (wc.alloc o):=λo=>Ak _ _;have HXB:=Ab hxb;clear hxb;go_wp2_with (go_at_call 16;go_must(refine(Bt R ad nn cap q 6 _ (HL.r.below (HXB _)) Za Zb Zb).mono ?_;rintro e w3 ⟨y,rfl,_,hy,FP,Gi⟩;have hy6:=hy Zb;have MI:=Ab (HL.pick ((Aj (HXB _)).trans FP) Gi Za);obtain⟨s,Ks,Qt⟩:=iR FP Za hy6;have r53:=MI.cells.2.2.2.2.2.1;have Ai8:=MI.m.free 5));go_meet;case rel=>exact⟨_,q+1,Za,Za,MI.set (Az ⟨_,HB.r⟩) (o:=5) Zb _ {v with hold:=s} ⟨⟨HL.i.fit.k,HL.i.fit.n,HL.i.fit.t,Ks⟩,HL.i.o1,HL.i.o5,HL.i.s1⟩ (aN)⟩
        --r16>
      case rest=>obtain⟨v,q,GM,Lz,hL⟩:=hcut;obtain⟨r0,r1,r2,r3,r4,r5,rf,rl⟩:=hL.cells;have ha:=hL.f.block;have A:=HB.a.fr2 hL.f Za;obtain⟨A0,A1,A2,A3,A4,A5⟩:=CT6 A;have AF:=A.free;have AL:=A.lt;have HL:=Ab hL;clear hL HM4 ha;have HA:=Ab A;clear A;go_wp2_with fail;have Z:=Ah7 HA (.i v.op) (.s v.k) (.s v.n) (.i v.s) (.s v.m) (.s v.hold);obtain⟨z0,z1,z2,z3,z4,z5⟩:=CT6 Z;refine bodyPost_ret (v:=.agg (vW v)) (by simp[results,results31,go_sem,z0,z1,z2,z3,z4,z5]) rfl ⟨v,rfl,HL.i,((Aj HB.b).trans HL.f).far6 Za _ _ _ _ _ _,q,Za,Za,HR.far6 HL.r Za _ _ _ _ _ _⟩
       --fin>
end Go.Proofs.YtdknjmgdgnmhjaaGreat
