import Derived.Test.YtllmmkchokkaaaaGreatDoorPk09
import Derived.Deep.AppendSrc
set_option maxRecDepth 100000
set_option maxHeartbeats 1000000
namespace Go.Proofs.YtllmmkchokkaaaaGreatDoor
open Go.RowKit Go.Maps Go.Proofs.Tryz
theorem LJ{P:Program}{w:World}{ops:Array Oper}{rest:List Oper}{o:Oper}{a:Act}{Q:Exit->Act->World->Prop}(hgd:o.guard=none)(s x:Operand)(t:TypeId)(ho:o.op=.call {callee:=.builtin .append,args:=#[s,x],argTypes:=#[t,t]})(e:TypeId)(i:TypeInfo)(ht:P.underlying t=some (.slice e))(hi:P.info? e=some i)(b off sLen sCap:Nat)(hle:sLen<=sCap)(hs:a.eval s=.l (some ⟨b,off,none⟩) sLen sCap)(ad:OA)(c:Nat)(hx:a.eval x=.l ad 0 c)(h:wpList P ops Q rest (a.put o.dst (.l (some ⟨b,off,none⟩) sLen sCap)) w):wpList P ops Q (o::rest) a w:=by
 refine wpList_plain hgd λK hK=>?_;have hsrc:Src P i.size t (.l ad 0 c) 0 [] w:=by cases ad with
  |none=>exact Src.ofNil w ht c
  |some a0=>exact Src.ofSlice w ht a0 0 c [] Ze (λj u hj=>by simp at hj) (λu hu=>by cases hu)
 have hrun:=run_append_room_src (P:=P) w t t o.type e i ht hi b off sLen sCap _ 0 [] hsrc Za (λj hj=>by simp at hj) (λj hj=>by simp at hj);simp only[Nat.add_zero,World.setCells]at hrun;unfold Oper.wp;simp[execOp,ho,resolve,invoke,builtin,hs,hx,hrun,Result.andThen];exact hK _ _ h
def Bh (n:Nat)(s:Nat->ByteArray):List Value:=(List.range n).map λi=>.s (s i)
theorem MH{n:Nat}{s:Nat->ByteArray}{j:Nat}{u:Value}(h:(Bh n s)[j]?=some u):j<n/\u=.s (s j):=by
 simp only[Bh,List.getElem?_map]at h;rcases As j n with h1|h1;.rw[BK (by simpa using h1)]at h;simp at h;exact⟨h1,h.symm⟩
 .rw[CL (by simpa using h1)]at h;cases h
theorem De{n:Nat}{s:Nat->ByteArray}{j:Nat}(h:j<n):(Bh n s)[j]?=some (.s (s j)):=by simp[Bh,h]
theorem Ef (n:Nat)(s:Nat->ByteArray):(Bh n s).length=n:=by simp[Bh]
theorem JI (n:Nat)(s:Nat->ByteArray):∀u∈Bh n s,u.oneCell'=true:=by intro u hu;obtain⟨i,_,rfl⟩:=Ey.1 hu;rfl
theorem Kj{w:World}{base n:Nat}{v:Value}{s:Nat->ByteArray}(h:w.ownsRow base 9 1 v n (Bh n s))(hn:0<n):∃g cap,v=.l (some ⟨g,0,none⟩) n cap/\n<=cap/\AV w base w.1.size (some ⟨g,0,none⟩) n s:=by
 rcases h.2 with⟨_,h0⟩|⟨g,cap,cur,rfl,hg,hh,hr⟩;.omega
 .refine⟨g,cap,rfl,hr.1,λi hi=>⟨g,0,rfl,hg,(Cj.1 hh).1,?_,?_⟩⟩;.have:=World.ownsRow.cellAt (g:=g) (cap:=cap) h i Za;simpa[De hi]using this
  .simpa using World.ownsRow.frozenAt (g:=g) (cap:=cap) h i
theorem SQ{w w1:World}{c0 c1:Array Value}{t0 t1:TypeId}{o2:Obj}(hg:(((w.alloc (.cells c0 t0)).alloc (.cells c1 t1)).alloc o2).grownBy w1 (some (w.1.size+1+1))):(∀i,w1.cell? ⟨w.1.size,i,none⟩=c0[i]?)/\(∀i,w1.cell? ⟨w.1.size+1,i,none⟩=c1[i]?)/\(∀i,w1.frozen? ⟨w.1.size,i,none⟩=false)/\(∀i,w1.frozen? ⟨w.1.size+1,i,none⟩=false)/\Below w.1.size w w1/\w.1.size+2<w1.1.size:=by
 have hB2:Below (w.1.size+1+1) ((w.alloc (.cells c0 t0)).alloc (.cells c1 t1)) w1:=((Ak _ _).alloc Ze o2).grown hg Ze (λk hk=>by cases hk;exact Aw _);have hB2':Below ((w.alloc (.cells c0 t0)).alloc (.cells c1 t1)).1.size ((w.alloc (.cells c0 t0)).alloc (.cells c1 t1)) w1:=by simpa using hB2
 obtain⟨A0,A1,F0,F1⟩:=Kl hB2';refine⟨A0,A1,F0,F1,((Ae _ _).alloc Ze _).trans (hB2.mono Za),?_⟩;have:=hg.size;simp at this;omega
theorem LV (x:Ob)(ad:OA)(cap:Nat)(w:World)(lo hi:Nat)(hhi:hi<=w.1.size)(hl:(x.hn:Int)<=8796093022208)(hc:AB w lo hi ad x.hn x.hs):Calls prog 132 #[.agg (vO x ad cap)] w λe w'=>∃ad' cap',e=.returned (.agg (vO x ad' cap'))/\x.hn<=cap'/\AV w' w.1.size w'.1.size ad' x.hn x.hs/\Below w.1.size w w':=by
 obtain⟨i0,hi0,hz0,hz1,hz2⟩:=info_parts DZ;rcases AW x.hn with h0|hpos
 .obtain⟨ki,na,ve,bo,te,en,hn,hs⟩:=x;dsimp only at h0 hc hl⊢;subst h0;go_enter func132,ntmps132;go_wp2_with (at_builtin;refine LJ rfl _ _ 108 rfl 9 i0 underlying108 hi0 _ _ _ _ Bj rfl _ _ rfl ?_);refine bodyPost_ret (v:=.agg #[.s ki,.s na,.i ve,.i bo,.s te,.bool en,.l (some ⟨w.1.size+1+1,0,none⟩) 0 0]) (by simp[results,results132,go_sem]) rfl ⟨_,0,rfl,Aw _,?_,?_⟩;.intro i hi';exact absurd hi' (Al _)
  .exact(((Ak _ _).alloc Bj _).alloc Ze _).alloc Zd _
 .obtain⟨b,off,rfl,hlo,hbh,_⟩:=hc 0 hpos;have hown0:∀(o1 o2:Obj),(((w.alloc o1).alloc o2).alloc (.cells #[] 9)).ownsRow (w.1.size+1+1) 9 1 (.l (some ⟨w.1.size+1+1,0,none⟩) 0 0) 0 []:=λo1 o2=>by have:=CE (base:=w.1.size+1+1) (e:=9) (size:=1) ((w.alloc o1).alloc o2) #[] 0 Ze Ny rfl;simpa using this
  have hb0:∀(o1 o2 o3:Obj),Below w.1.size w (((w.alloc o1).alloc o2).alloc o3):=λo1 o2 o3=>(((Ak _ _).alloc Bj _).alloc Ze _).alloc Zd _;have hnews:∀(o1 o2 o3:Obj),∀j u,(Bh x.hn x.hs)[j]?=some u->(((w.alloc o1).alloc o2).alloc o3).cell? ((⟨b,off,none⟩:Addr).add j)=some u:=λo1 o2 o3 j u hj=>by
   obtain⟨h1,rfl⟩:=MH hj;obtain⟨b',off',e,_,_,e4⟩:=hc j h1;cases e;have ea:((⟨b,off,none⟩:Addr).add j)=⟨b,off+j,none⟩:=by simp[Addr.add]
   rw[ea,(hb0 o1 o2 o3).cell (p:=⟨b,off+j,none⟩) Zj];exact e4
  have HB:=Ai hb0;clear hb0;go_enter func132,ntmps132;go_wp2_with (at_builtin;go_must(refine wpList_append_own _ rfl _ _ 108 rfl (w.1.size+1+1) 9 i0 (.s ByteArray.empty) 1 16 underlying108 hi0 hz0 hz1 hz2 rfl Zb _ 0 [] rfl (hown0 _ _) ⟨b,off,none⟩ x.hn cap (Bh x.hn x.hs) rfl (by rw[Ef];omega) (hnews _ _ _) (JI _ _) Zn Za Ze ?_;intro v1 w1 hown1 hgrow1 _;obtain⟨g',cap',rfl,hcp,hS⟩:=Kj (by simpa only[Bc,KL]using hown1) hpos;clear hown1;obtain⟨A0,A1,F0,F1,hB,hz⟩:=SQ hgrow1;clear hgrow1;have p0:=A0 0;have p1:=A0 1;have p2:=A0 2;have p3:=A0 3;have p4:=A0 4;have p5:=A0 5;have p6:=A0 6;have q0:=A1 0;have q1:=A1 1;have q2:=A1 2;have q3:=A1 3;have q4:=A1 4;have q5:=A1 5;have q6:=A1 6;simp only[Ah,Ad,Ab]at p0 p1 p2 p3 p4 p5 p6 q0 q1 q2 q3 q4 q5 q6;clear A0 A1;have HS:=Ai hS;clear hS hown0 hnews hc));refine bodyPost_ret (v:=.agg (vO x (some ⟨g',0,none⟩) cap')) (by simp[results,results132,go_sem,q0,q1,q2,q3,q4,q5,q6]) rfl ⟨_,_,rfl,hcp,?_,?_⟩
  .simp only[Az];refine(AV.fr HS (lo2:=w.1.size) (hi2:=w.1.size+2) ?_ Bj Za).mono Za Bj;iterate 8 refine Fr.setCell ?_ Zo Zo _
   exact Fr.refl _ _ _
  .refine hB.trans (Fr.below (lo:=w.1.size) (hi:=w.1.size+2) ?_ Bj hB.size);iterate 8 refine Fr.setCell ?_ Zo Zo _
   exact Fr.refl _ _ _
theorem Mk{a b:Int}(h:(DataW.lit (.i a):DataW Unit)=.lit (.i b)):a=b:=by cases h;rfl
def oB:Ob:=⟨⟨#[]⟩,⟨#[]⟩,0,0,⟨#[]⟩,false,0,λ_=>⟨#[]⟩⟩
def Cv (x:Nat->Ob)(a b:ByteArray)(n:Nat):Ob:=match JS x a b n with|some i=>x i|none=>oB
def Cw (x:Nat->Ob)(a b:ByteArray)(n:Nat):Bool:=(JS x a b n).isSome
theorem Pn{x:Nat->Ob}{a b:ByteArray}{k i:Nat}(h:JS x a b k=some i):∀{n:Nat},k<=n->JS x a b n=some i:=by intro n hn;induction n with
 |zero=>have:k=0:=Za;subst this;exact h
 |succ m ih=>
   rcases As m k with h1|h1;.have:k=m+1:=Za;subst this;exact h
   .exact GU (ih h1)
theorem GT{a b:ByteArray}(h:a.toList=b.toList):a=b:=by
 have h1:a.data.toList=b.data.toList:=by simpa[KZ]using h
 cases a;cases b;simp at h1;exact congrArg ByteArray.mk h1
theorem BQ (now floor:Int)(n:Nat)(x:Nat->Ob)(a1 a2 a3:OA)(c1 n2 c2 n3 c3:Nat)(ki na:ByteArray)(w:World)(lo hi:Nat)(hhi:hi<=w.1.size)(hl:(n:Int)<=1099511627776)(hf:∀i,i<n->CW (x i))(hc:BH w lo hi a1 n x):Calls prog 76 #[.agg #[.i now,.i floor,.l a1 n c1,.l a2 n2 c2,.l a3 n3 c3],.s ki,.s na] w λe w'=>∃ad' cap',e=.returned (.tuple #[.agg (vO (Cv x ki na n) ad' cap'),.bool (Cw x ki na n)])/\(Cv x ki na n).hn<=cap'/\AV w' w.1.size w'.1.size ad' (Cv x ki na n).hn (Cv x ki na n).hs/\Below w.1.size w w':=by
 have hB0:∀o1 o2:Obj,Below w.1.size w ((w.alloc o1).alloc o2):=λo1 o2=>((Ak _ _).alloc Bj _).alloc Ze _;have HB:=Ai hB0;clear hB0;go_enter func76,ntmps76;go_wp2;go_loopw[8](λi wr=>∃k:Nat,k<=n/\i=.i k/\JS x ki na k=none/\wr=(w.alloc (.cells #[.i now,.i floor,.l a1 n c1,.l a2 n2 c2,.l a3 n3 c3] 35)).alloc (.cells #[.s ⟨#[]⟩,.s ⟨#[]⟩,.i 0,.i 0,.s ⟨#[]⟩,.bool false,.l none 0 0] 118))(λi _=>n-(intOf i).toNat);case atStart=>exact⟨0,Ap _,rfl,rfl,rfl⟩
 case round=>
  obtain⟨k,hk,rfl,hfd,rfl⟩:=hrel;by_cases hkn:k<n
  .obtain⟨b,off,ah,ch,rfl,hlo,hbh,hcx,hsx⟩:=hc k hkn;have hfi:=(hf k hkn).h;obtain⟨d0,d1,d2,d3,d4,d5,d6⟩:=hcx.below (HB (.cells #[.i now,.i floor,.l (some ⟨b,off,none⟩) n c1,.l a2 n2 c2,.l a3 n3 c3] 35) (.cells #[.s ⟨#[]⟩,.s ⟨#[]⟩,.i 0,.i 0,.s ⟨#[]⟩,.bool false,.l none 0 0] 118)) Za;have HF:=Ai hfd;clear hc hf hcx hfd;go_wp2_with fail
   .have hh:(x k).kind=ki/\(x k).name=na:=⟨GT M0,GT (by have h9:((x k).name.toList==na.toList)=true:=M0;exact eq_of_beq h9)⟩;have yE:=Ai (Mp HF hh);have HN:=Ai (Pn yE (show k+1<=n by omega));clear hh HF yE;refine(LV (x k) ah ch _ lo hi Zd hfi (hsx.below (HB _ _) hhi)).mono ?_;rintro e w1 ⟨ah',ch',rfl,hcp,ho1,hb1⟩;have sX:=Ai hcp;clear hcp;have hB1:Below w.1.size w w1:=(HB _ _).trans (hb1.mono Zd);obtain⟨A0,A1,F0,F1⟩:=Kl hb1;have q0:=A1 0;have q1:=A1 1;have q2:=A1 2;have q3:=A1 3;have q4:=A1 4;have q5:=A1 5;have q6:=A1 6;have hz:=hb1.size;simp only[Ah,Ad,Ab]at q0 q1 q2 q3 q4 q5 q6;simp only[AE]at ho1 hz;have HO:=Ai ho1;clear A0 A1 F0 hb1 ho1 d0 d1 d2 d3 d4 d5 d6 hsx;go_wp2;have e1:Cv x ki na n=x k:=by unfold Cv;rw[HN.out]
    have e2:Cw x ki na n=true:=by unfold Cw;rw[HN.out];rfl
    rw[e1,e2];refine bodyPost_ret (v:=.tuple #[.agg (vO (x k) ah' ch'),.bool true]) (by simp[results,results76,go_sem,q0,q1,q2,q3,q4,q5,q6]) rfl ⟨ah',ch',rfl,sX,?_,?_⟩
    .simp only[Az];refine(AV.fr HO (lo2:=w.1.size) (hi2:=w.1.size+2) ?_ Bj Za).mono Za Bj;iterate 7 refine Fr.setCell ?_ Zo Zo _
     exact Fr.refl _ _ _
    .refine hB1.trans (Fr.below (lo:=w.1.size) (hi:=w.1.size+2) ?_ Bj hB1.size);iterate 7 refine Fr.setCell ?_ Zo Zo _
     exact Fr.refl _ _ _
   .have hh:¬((x k).kind=ki/\(x k).name=na):=λe=>by
     have h9:((x k).name.toList==na.toList)=false:=by assumption
     rw[e.2]at h9;simp at h9
    go_roundw;case rel=>exact⟨k+1,Za,by go_num,KF HF hh,by trivial⟩
    case measure=>simp[intOf];omega
   .have hh:¬((x k).kind=ki/\(x k).name=na):=λe=>by
     have h9:¬(x k).kind.toList=ki.toList:=by assumption
     exact h9 (by rw[e.1])
    go_roundw;case rel=>exact⟨k+1,Za,by go_num,KF HF hh,by trivial⟩
    case measure=>simp[intOf];omega
  .have:k=n:=Za;subst this;have HF:=Ai hfd;clear hc hf hfd;go_wp2;have e1:Cv x ki na k=oB:=by unfold Cv;rw[HF.out]
   have e2:Cw x ki na k=false:=by unfold Cw;rw[HF.out];rfl
   rw[e1,e2];refine bodyPost_ret (v:=.tuple #[.agg #[.s ⟨#[]⟩,.s ⟨#[]⟩,.i 0,.i 0,.s ⟨#[]⟩,.bool false,.l none 0 0],.bool false]) (by simp[results,results76,go_sem]) rfl ⟨none,0,rfl,Aw _,?_,?_⟩;.intro j hj;exact absurd hj (Al _)
   .exact HB _ _
end Go.Proofs.YtllmmkchokkaaaaGreatDoor
