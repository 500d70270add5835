import Derived.Test.YtnnjcenacidceaaPk20
import Derived.Test.YtnnjcenacidceaaPk21
import Derived.Test.YtnnjcenacidceaaPk19
set_option maxRecDepth 100000
set_option maxHeartbeats 8000000
namespace Go.Proofs.Ytnnjcenacidceaa
open Go.RowKit Go.Maps Go.Proofs.Try
theorem Wu{B:Bk}{v:Wr}(hok:Nv B v):(BV B v).hn<=5/\MC (BV B v).hn (BV B v).hs/\(Ce B.os v.kind v.name B.on=false->BV B v=nB):=by unfold BV BN Ce;cases h:Nq B.os v.kind v.name B.on with
 |none=>exact⟨At _,λi j _ h2=>absurd h2 (Aj _),λ_=>rfl⟩
 |some i=>have h1:=hok.hold i (Oh h).1;exact⟨h1.1,h1.2,λh2=>by simp at h2⟩
theorem MD{B:Bk}{v:Wr}{w:World}{c:Int}(hc:D9 B v=c)(h0:¬c=0){e:Ending}{w':World}(h:e=.returned (.tuple #[.agg #[.i 0,.bool false,.s ⟨#[]⟩,.s ⟨#[]⟩,.i 0,.i 0,.s ⟨#[]⟩,.bool false,.l none 0 0],.i c])/\Below w.1.size w w'):Ql B v w e w':=by
 have hw:BJ B v=c:=by unfold BJ;rw[hc,if_neg h0]
 exact⟨h.2,AA ⟨by rw[hw];exact h0,by rw[hw];exact h.1⟩⟩
theorem gW{v:Wr}(h:Li v=true)(h1:v.op=1):v.seen=0:=by unfold Li at h;rw[Al]at h;have h2:=h.2;unfold Lz at h2;rw[if_pos h1]at h2;exact of_decide_eq_true h2
theorem WW (n:Nat):(!(!true||decide (0<n)))=((n:Int)==0):=by cases n with
 |zero=>rfl
 |succ k=>simp;omega
theorem T5 (B:Bk)(v:Wr)(a1 a2 a3:OA)(c1 c2 c3:Nat)(w:World)(hok:Nv B v)(hc:B4 w 0 w.1.size a1 B.on B.os):Calls prog 84 #[.agg (vB B a1 a2 a3 c1 c2 c3),.agg (vW v)] w λe w'=>Ql B v w e w':=by obtain⟨hl,hasc,hno⟩:=Wu hok;have hol:((BV B v).hn:Int)<=5:=Za;cases ht:Ce B.os v.kind v.name B.on with
 |false=>
  by_cases h1:v.op=1
  .have hw:=hno ht;have hs:=gW hok.wr h1;have he:(BV B v).ending=false:=by rw[hw];rfl
   have hoc:=pJ ht hw h1 hs;by_cases h100:100<=B.on
   .rw[if_pos h100]at hoc;exact(oR B v a1 a2 a3 c1 c2 c3 (BV B v) w hok hc rfl hol ht h1 hs he h100).mono (λ_ _ h=>MD hoc Zb h)
   .rw[if_neg h100]at hoc;by_cases hh0:v.hold=⟨#[]⟩
    .have hx:Cr B v=⟨v.kind,v.name,B.now+1,B.now+1,v.text,false,0,λ_=>v.hold⟩:=by unfold Cr MY;rw[if_pos h1,if_pos (by simp[PE,hh0])]
     have hg:CX B v=false:=by unfold CX;rw[hx];simp[CW]
     exact pQ B v a1 a2 a3 c1 c2 c3 (BV B v) w hok hc rfl hol ht h1 hoc hs he hh0 h100 (by show _=Value.agg #[.i (B.now+1),.bool (CX B v),.s (Cr B v).kind,.s (Cr B v).name,.i (Cr B v).ver,.i (Cr B v).born,.s (Cr B v).text,.bool (Cr B v).ending,.l _ (Cr B v).hn _];rw[hg,hx]) (λW A=>by show AB W 0 _ A (Cr B v).hn (Cr B v).hs=_;rw[hx])
    .have hx:Cr B v=⟨v.kind,v.name,B.now+1,B.now+1,v.text,false,1,λ_=>v.hold⟩:=by unfold Cr MY;rw[if_pos h1,if_neg (by simp[PE,hh0])]
     have hg:CX B v=false:=by unfold CX;rw[hx];simp[CW]
     exact pO B v a1 a2 a3 c1 c2 c3 (BV B v) w hok hc rfl hol ht h1 hoc hs he hh0 h100 (λ_ _=>by show _=Value.agg #[.i (B.now+1),.bool (CX B v),.s (Cr B v).kind,.s (Cr B v).name,.i (Cr B v).ver,.i (Cr B v).born,.s (Cr B v).text,.bool (Cr B v).ending,.l _ (Cr B v).hn _];rw[hg,hx]) (λW A=>by show AB W 0 _ A (Cr B v).hn (Cr B v).hs=_;rw[hx])
  .exact(YO B v a1 a2 a3 c1 c2 c3 (BV B v) w hok hc rfl hol ht h1).mono (λ_ _ h=>MD (Xs ht h1).1 Zb h)
 |true=>
  by_cases h1:v.op=1;.exact(Wc B v a1 a2 a3 c1 c2 c3 (BV B v) w hok hc rfl hol ht h1).mono (λ_ _ h=>MD (bZ ht h1).1 Zb h)
  by_cases hst:¬v.seen=0/\¬v.seen=(BV B v).ver;.exact(wQ B v a1 a2 a3 c1 c2 c3 (BV B v) w hok hc rfl hol ht h1 hst.1 hst.2).mono (λ_ _ h=>MD (gK ht h1 hst).1 Zb h)
  have hsv:v.seen=0\/(¬v.seen=0/\v.seen=(BV B v).ver):=by
   by_cases h:v.seen=0;.exact AA h
   .exact AC ⟨h,Classical.byContradiction (λq=>hst ⟨h,q⟩)⟩
  by_cases hend:(BV B v).ending=true/\¬v.op=5;.exact(wK B v a1 a2 a3 c1 c2 c3 (BV B v) w hok hc rfl hol ht h1 hend.2 hsv hend.1).mono (λ_ _ h=>MD (pN ht h1 hst hend.1 hend.2).1 Zb h)
  have hoc:=sU ht h1 hst hend;have he:¬v.op=5->(BV B v).ending=false:=λh5=>by cases h:(BV B v).ending with
   |false=>rfl
   |true=>exact absurd ⟨h,h5⟩ hend
  rcases cV hok.wr with h|h|h|h|h;.exact absurd h h1
  .have he:=he Za;rw[if_neg Za,if_neg Za]at hoc;have hx:Cr B v=⟨(BV B v).kind,(BV B v).name,B.now+1,(BV B v).born,v.text,false,(BV B v).hn,(BV B v).hs⟩:=by unfold Cr MY;rw[if_neg h1,if_pos h,he]
   have hg:CX B v=false:=by unfold CX;rw[hx];simp[CW]
   exact sS B v a1 a2 a3 c1 c2 c3 (BV B v) w hok hc rfl hol ht h hoc hsv he (λ_ _=>by show _=Value.agg #[.i (B.now+1),.bool (CX B v),.s (Cr B v).kind,.s (Cr B v).name,.i (Cr B v).ver,.i (Cr B v).born,.s (Cr B v).text,.bool (Cr B v).ending,.l _ (Cr B v).hn _];rw[hg,hx]) (λW A=>by show AB W 0 _ A (Cr B v).hn (Cr B v).hs=_;rw[hx])
  .have he:=he Za;rw[if_neg Za,if_neg Za]at hoc;have hx:Cr B v=⟨(BV B v).kind,(BV B v).name,B.now+1,(BV B v).born,(BV B v).text,true,(BV B v).hn,(BV B v).hs⟩:=by unfold Cr MY;rw[if_neg h1,if_neg Za,if_pos h]
   have hg:CX B v=(((BV B v).hn:Int)==0):=by unfold CX;rw[hx];exact WW _
   exact tJ B v a1 a2 a3 c1 c2 c3 (BV B v) w hok hc rfl hol ht h hoc hsv he (λ_ _=>by show _=Value.agg #[.i (B.now+1),.bool (CX B v),.s (Cr B v).kind,.s (Cr B v).name,.i (Cr B v).ver,.i (Cr B v).born,.s (Cr B v).text,.bool (Cr B v).ending,.l _ (Cr B v).hn _];rw[hg,hx]) (λW A=>by show AB W 0 _ A (Cr B v).hn (Cr B v).hs=_;rw[hx])
  .have he:=he Za;rw[if_pos h]at hoc;cases hh:M4 (BV B v).hn (BV B v).hs v.hold with
   |true=>rw[hh,if_pos rfl]at hoc;exact(oB B v a1 a2 a3 c1 c2 c3 (BV B v) w hok hc rfl hol ht h hsv he hh).mono (λ_ _ h=>MD hoc Zb h)
   |false=>
    rw[hh,if_neg Zb]at hoc;by_cases h5:5<=(BV B v).hn;.rw[if_pos h5]at hoc;exact(oH B v a1 a2 a3 c1 c2 c3 (BV B v) w hok hc rfl hol ht h hsv he hh Za).mono (λ_ _ h=>MD hoc Zb h)
    .rw[if_neg h5]at hoc;have hx:Cr B v=⟨(BV B v).kind,(BV B v).name,B.now+1,(BV B v).born,(BV B v).text,false,(BV B v).hn+1,Qt (BV B v).hs (K1 (BV B v).hs v.hold (BV B v).hn) v.hold⟩:=by unfold Cr MY;rw[if_neg h1,if_neg Za,if_neg Za,if_pos h,he]
     have hg:CX B v=false:=by unfold CX;rw[hx];simp[CW]
     exact tS B v a1 a2 a3 c1 c2 c3 (BV B v) w hok hc rfl hol ht h hsv he hh Za hoc (λ_ _=>by show _=Value.agg #[.i (B.now+1),.bool (CX B v),.s (Cr B v).kind,.s (Cr B v).name,.i (Cr B v).ver,.i (Cr B v).born,.s (Cr B v).text,.bool (Cr B v).ending,.l _ (Cr B v).hn _];rw[hg,hx]) (λW A=>by show AB W 0 _ A (Cr B v).hn (Cr B v).hs=_;rw[hx])
  .rw[if_neg Za,if_pos h]at hoc;cases hh:M4 (BV B v).hn (BV B v).hs v.hold with
   |false=>rw[hh,if_neg Zb]at hoc;exact(oE B v a1 a2 a3 c1 c2 c3 (BV B v) w hok hc rfl hol ht h hsv hh).mono (λ_ _ h=>MD hoc Zb h)
   |true=>
    rw[hh,if_pos rfl]at hoc;have hx0:Cr B v=⟨(BV B v).kind,(BV B v).name,B.now+1,(BV B v).born,(BV B v).text,(BV B v).ending,(BV B v).hn-1,Nc (BV B v).hs (K1 (BV B v).hs v.hold (BV B v).hn)⟩:=by unfold Cr MY;rw[if_neg h1,if_neg Za,if_neg Za,if_neg Za]
    cases hE:(BV B v).ending with
    |false=>
     have hx:=hx0;rw[hE]at hx;have hg:CX B v=false:=by unfold CX;rw[hx];simp[CW]
     exact oX B v a1 a2 a3 c1 c2 c3 (BV B v) w hok hc rfl hol ht h hsv hE hh hasc _ rfl hoc (λ_ _=>by show _=Value.agg #[.i (B.now+1),.bool (CX B v),.s (Cr B v).kind,.s (Cr B v).name,.i (Cr B v).ver,.i (Cr B v).born,.s (Cr B v).text,.bool (Cr B v).ending,.l _ (Cr B v).hn _];rw[hg,hx]) (λW A=>by show AB W 0 _ A (Cr B v).hn (Cr B v).hs=_;rw[hx])
    |true=>
     have hx:=hx0;rw[hE]at hx;have hg:CX B v=((((BV B v).hn-1:Nat):Int)==0):=by unfold CX;rw[hx];exact WW _
     exact oL B v a1 a2 a3 c1 c2 c3 (BV B v) w hok hc rfl hol ht h hsv hE hh hasc _ rfl hoc (λ_ _=>by show _=Value.agg #[.i (B.now+1),.bool (CX B v),.s (Cr B v).kind,.s (Cr B v).name,.i (Cr B v).ver,.i (Cr B v).born,.s (Cr B v).text,.bool (Cr B v).ending,.l _ (Cr B v).hn _];rw[hg,hx]) (λW A=>by show AB W 0 _ A (Cr B v).hn (Cr B v).hs=_;rw[hx])
end Go.Proofs.Ytnnjcenacidceaa
namespace Go.Proofs.Ytnnjcenacidceaa
open Go.RowKit Go.Proofs.Try
structure wZ (W:World)(a b c:Bool)(va vb vc:Value)(RA RB RC:Value->World->Prop)(X:World):Prop where
 ra:a=true->c=false->RA va X
 rb:b=true->c=false->RB vb X
 sep:a=true->b=true->c=false->∀g h n k m,va=.l (some ⟨g,0,none⟩) n k->0<k->vb=.l (some ⟨h,0,none⟩) m m->g≠h
 rc:c=true->RC vc X
def wP (n a b c:Nat)(ops:Array Oper)(mk:(Nat->Value)->Array Value)(W:World)(PV:Nat->Value->Prop)(RA RB RC:Value->World->Prop)(Fin:Act->World->Prop)(l:Array Bool)(ac:Act)(X:World):Prop:=l.size=n+1/\(∀i j,BE ops i j->l.getD i false=true->l.getD j false=true)/\(l.getD n false=true->(∀i,i<n+1->l.getD i false=true)/\Fin ac X)/\(l.getD n false=false->∃t:Nat->Value,ac=⟨mk t,[]⟩/\Below W.1.size W X/\(∀i,i<n->l.getD i false=true->PV i (t i))/\wZ W (l.getD a false) (l.getD b false) (l.getD c false) (t a) (t b) (t c) RA RB RC X)
theorem bL{P:Program}{id:Nat}{ops:Array Oper}{Q:Exit->Act->World->Prop}{a0:Act}{W:World}(hm:P.follows .mixedOrders=true)(n a b c:Nat)(hlt:(a<b/\b<c)/\c<n)(wca:BE ops c a)(wcb:BE ops c b)(mk:(Nat->Value)->Array Value)(t0:Nat->Value)(PV:Nat->Value->Prop)(RA RB RC:Value->World->Prop)(Fin:Act->World->Prop)(hn:ops.size=n+1)(hord:((List.range ops.size).all λi=>match ops[i]? with|some o=>o.after.all (λe=>decide (e.on<i))|none=>true)=true)(hanc:((List.range n).all λj=>(List.range (n+1)).any λk=>match ops[k]? with|some o=>decide (j<k)&&o.after.any (λe=>Region.binds .any e&&e.on==j)|none=>false)=true)(gA:∀v X Y,RA v X->Below X.1.size X Y->RA v Y)(gB:∀v X Y,RB v X->Below X.1.size X Y->RB v Y)(gC:∀v X Y,RC v X->Below X.1.size X Y->RC v Y)(bA:∀g n k X,RA (.l (some ⟨g,0,none⟩) n k) X->0<k->g<X.1.size)(bB:∀h m X,RB (.l (some ⟨h,0,none⟩) m m) X->h<X.1.size)(h0:a0=⟨mk t0,[]⟩)(sp:∀i,i<n->i≠a->i≠b->i≠c->∀(t:Nat->Value) X K,Below W.1.size W X->(∀j,BE ops i j->PV j (t j))->(∀v Y,PV i v->Below X.1.size X Y->K ⟨mk (Av t i v),[]⟩ Y)->wpOp P ops Q i K ⟨mk t,[]⟩ X)(sa:∀(t:Nat->Value) X K,Below W.1.size W X->(∀j,BE ops a j->PV j (t j))->(∀v Y,PV a v->RA v Y->(∀g n k,v=.l (some ⟨g,0,none⟩) n k->0<k->X.1.size<=g)->Below X.1.size X Y->K ⟨mk (Av t a v),[]⟩ Y)->wpOp P ops Q a K ⟨mk t,[]⟩ X)(sb:∀(t:Nat->Value) X K,Below W.1.size W X->(∀j,BE ops b j->PV j (t j))->(∀v Y,PV b v->RB v Y->(∀h m,v=.l (some ⟨h,0,none⟩) m m->X.1.size<=h)->Below X.1.size X Y->K ⟨mk (Av t b v),[]⟩ Y)->wpOp P ops Q b K ⟨mk t,[]⟩ X)(sc:∀(t:Nat->Value) X K,Below W.1.size W X->(∀j,BE ops c j->PV j (t j))->RA (t a) X->RB (t b) X->(∀g h n k m,t a=.l (some ⟨g,0,none⟩) n k->0<k->t b=.l (some ⟨h,0,none⟩) m m->g≠h)->(∀v Y,PV c v->RC v Y->Below W.1.size X Y->K ⟨mk (Av t c v),[]⟩ Y)->wpOp P ops Q c K ⟨mk t,[]⟩ X)(sl:∀(t:Nat->Value) X K,Below W.1.size W X->(∀j,j<n->PV j (t j))->RC (t c) X->(∀ac Y,Fin ac Y->K ac Y)->wpOp P ops Q n K ⟨mk t,[]⟩ X)(hfin:∀ac X,Fin ac X->Q .normal ac X):(Code.region id ops true).wp P Q a0 W:=by
 have hdep:∀i j,i<n+1->BE ops i j->j<i:=by rintro i j hi ⟨o,ho,e,he,_,rfl⟩;have h1:=AZ.1 hord i (Bd.2 Za);rw[ho]at h1;exact of_decide_eq_true (AU.1 h1 e he)
 refine Cs hm (wP n a b c ops mk W PV RA RB RC Fin) ?_ ?_ ?_ ?_
 .have hz:∀i,(Array.replicate ops.size false).getD i false=false:=λi=>by simp[Array.getD]
  refine⟨by simp[hn],λi j _ h=>?_,λh=>?_,λ_=>⟨t0,h0,(Ao _ _).drew,λi _ h=>?_,?_⟩⟩;.rw[hz]at h;cases h
  .rw[hz]at h;cases h
  .rw[hz]at h;cases h
  .simp only[hz];exact⟨λh=>O7,λh=>O7,λh=>O7,λh=>O7⟩
 .rintro l ac X ⟨hs,_⟩;rw[hs,hn]
 .rintro l ac X ⟨hs,_,h6,_⟩ hr;have AL:=KJ hord (by rw[hs,hn]) hr;exact hfin ac X (h6 (AL n Za)).2
 .rintro l ac X i ⟨hs,hcl,h6,hg⟩ hr;obtain⟨hu,o,ho,hall⟩:=mem_ready.1 hr;have di:∀j,BE ops i j->l.getD j false=true:=by
   rintro j ⟨o',ho',e,he,hb,rfl⟩;rw[ho]at ho';obtain rfl:o=o':=by simpa using ho'
   exact hall e he hb
  have hi7:i<n+1:=by
   rcases Au i (n+1)with h|h;.exact h
   .rw[A9 Za]at ho;cases ho
  have hui:l.getD i false=false:=by have:l.getD i true=false:=hu;simpa[Array.getD,hs,hi7]using this
  have l6:l.getD n false=false:=by cases h:l.getD n false with
   |false=>rfl
   |true=>rw[(h6 h).1 i hi7]at hui;cases hui
  obtain⟨t,rfl,hb,gg,S⟩:=hg l6;have kp:∀j,¬j=i->(l.setIfInBounds i true).getD j false=l.getD j false:=λj hj=>by rw[BT Za,if_neg hj]
  have ki:(l.setIfInBounds i true).getD i false=true:=by rw[BT Za,if_pos rfl]
  have hs':(l.setIfInBounds i true).size=n+1:=by simp[hs]
  have ku:∀j,l.getD j false=true->(l.setIfInBounds i true).getD j false=true:=λj h=>by
   by_cases e:j=i;.subst e;exact ki
   .rw[kp j e];exact h
  have hcl':∀p j,BE ops p j->(l.setIfInBounds i true).getD p false=true->(l.setIfInBounds i true).getD j false=true:=λp j hj h=>by
   by_cases e:p=i;.subst e;exact ku j (di j hj)
   .rw[kp p e]at h;exact ku j (hcl p j hj h)
  have dpv:∀j,BE ops i j->PV j (t j):=λj hj=>gg j (by have:=hdep i j hi7 hj;omega) (di j hj);have notc:l.getD a false=false\/l.getD b false=false->l.getD c false=false:=λh=>by cases hc:l.getD c false with
   |false=>rfl
   |true=>
    have h1:=hcl c a wca hc;have h2:=hcl c b wcb hc;rcases h with h|h;.rw[h]at h1;cases h1
    .rw[h]at h2;cases h2
  by_cases hin:i=n
  .subst hin;have al:=λj hj=>T3 (f:=λj=>l.getD j false=true) hanc hcl di i j Za hj;clear hr hu ho h6 hg;refine sl t X _ hb (λj hj=>gg j hj (al j hj)) (S.rc (al c hlt.2)) (λac Y hY=>⟨hs',hcl',λ_=>⟨λj hj=>?_,hY⟩,λh=>?_⟩)
   .by_cases e:j=i;.subst e;exact ki
    .exact ku j (al j Za)
   .rw[ki]at h;cases h
  have hno:(l.setIfInBounds i true).getD n false=false:=by rw[kp n (λe=>hin e.symm)];exact l6
  have pv':∀v,PV i v->∀j,j<n->(l.setIfInBounds i true).getD j false=true->PV j (Av t i v j):=λv hv j j1 h=>by
   by_cases e:j=i;.subst e;rw[Bp];exact hv
   .rw[kp j e]at h;rw[BB e];exact gg j j1 h
  have noN:∀{p:Prop},(l.setIfInBounds i true).getD n false=true->p:=λh=>by rw[hno]at h;cases h
  clear hr hu ho h6 hg;by_cases ea:i=a
  .subst ea;have hc0:=notc (AA hui);refine sa t X _ hb dpv (λv Y hpv hra hnew hY=>⟨hs',hcl',λh=>noN h,λ_=>⟨Av t i v,rfl,hb.trans (hY.mono hb.size),pv' v hpv,?_⟩⟩);rw[ki,kp b Za,kp c Za,Bp,BB (show¬b=i by omega),BB (show¬c=i by omega)];exact⟨λ_ _=>hra,λh1 h2=>gB _ _ _ (S.rb h1 h2) hY,λ_ h1 h2 g h n k m e1 hk e2=>by have h3:=hnew g n k e1 hk;have h4:=S.rb h1 h2;rw[e2]at h4;have:=bB h m X h4;omega,λh=>(by rw[hc0]at h;cases h)⟩
  by_cases eb:i=b
  .subst eb;have hc0:=notc (AC hui);refine sb t X _ hb dpv (λv Y hpv hrb hnew hY=>⟨hs',hcl',λh=>noN h,λ_=>⟨Av t i v,rfl,hb.trans (hY.mono hb.size),pv' v hpv,?_⟩⟩);rw[ki,kp a Za,kp c Za,Bp,BB (show¬a=i by omega),BB (show¬c=i by omega)];exact⟨λh1 h2=>gA _ _ _ (S.ra h1 h2) hY,λ_ _=>hrb,λh1 _ h2 g h n k m e1 hk e2=>by have h3:=hnew h m e2;have h4:=S.ra h1 h2;rw[e1]at h4;have:=bA g n k X h4 hk;omega,λh=>(by rw[hc0]at h;cases h)⟩
  by_cases ec:i=c
  .subst ec;have la:=di a wca;have lb:=di b wcb;refine sc t X _ hb dpv (S.ra la hui) (S.rb lb hui) (λg h n k m e1 hk e2=>S.sep la lb hui g h n k m e1 hk e2) (λv Y hpv hrc hY=>⟨hs',hcl',λh=>noN h,λ_=>⟨Av t i v,rfl,hb.trans hY,pv' v hpv,?_⟩⟩);rw[ki,kp a Za,kp b Za,Bp,BB (show¬a=i by omega),BB (show¬b=i by omega)];exact⟨λ_ h=>O7,λ_ h=>O7,λ_ _ h=>O7,λ_=>hrc⟩
  .refine sp i Za ea eb ec t X _ hb dpv (λv Y hpv hY=>⟨hs',hcl',λh=>noN h,λ_=>⟨Av t i v,rfl,hb.trans (hY.mono hb.size),pv' v hpv,?_⟩⟩);rw[kp a (λe=>ea e.symm),kp b (λe=>eb e.symm),kp c (λe=>ec e.symm),BB (λe=>ea e.symm),BB (λe=>eb e.symm),BB (λe=>ec e.symm)];exact⟨λh1 h2=>gA _ _ _ (S.ra h1 h2) hY,λh1 h2=>gB _ _ _ (S.rb h1 h2) hY,S.sep,λh1=>gC _ _ _ (S.rc h1) hY⟩
end Go.Proofs.Ytnnjcenacidceaa
namespace Go.Proofs.Ytnnjcenacidceaa
open Go.RowKit Go.Maps Go.Proofs.Try
def tI (K Xb:Nat)(ad:OA)(n cap:Nat)(c:Ch)(adc:OA)(capc:Nat)(i:Nat)(v:Value):Prop:=match i with
 |0=>∃b,v=.l (some ⟨b,0,none⟩) 0 0
 |1=>v=.p K 3
 |2=>v=.l ad n cap
 |4=>v=.agg #[.i c.ver,.bool c.gone,.s c.ob.kind,.s c.ob.name,.i c.ob.ver,.i c.ob.born,.s c.ob.text,.bool c.ob.ending,.l adc c.ob.hn capc]
 |7=>v=.p Xb 3
 |_=>True
theorem iU{p0 p1 p3 p4 p6 p7 p8 p9 DK DV DF C9 CV CU C6 C8 CZ Df C7 C4 CY Dw Di Dj Dg Dh Dy Dx DC DB DA Dz DH Ek Eu EE Ej Em Er Eo En Ei Eh Ds DU DW DI DG DY EA Ey Ew Ex Ez El Ep DM Fk Fg Fo Fm Fp Fl Fq Ff Fj:Value}{mk:(Nat->Value)->Array Value}(t0:Nat->Value)(K Cb Xb:Nat)(ad:OA)(n cap:Nat)(c:Ch)(adc:OA)(capc:Nat)(cc:Nat->Value)(lo hi:Nat)(W:World)(hn:n<=200)(hhi:hi<=W.1.size)(hs:BS W lo hi ad (n*9) cc)(hKz:K<W.1.size)(h3:W.cell? ⟨K,3,none⟩=some (.slice ad n cap))(hch:AN W Cb 9 (AR [.i c.ver,.bool c.gone,.s c.ob.kind,.s c.ob.name,.i c.ob.ver,.i c.ob.born,.s c.ob.text,.bool c.ob.ending,.l adc c.ob.hn capc]))(hX:Xb<W.1.size)(u3:Value)(hx3:W.cell? ⟨Xb,3,none⟩=some u3)(hf:W.frozen? ⟨Xb,3,none⟩=false)(hmk:mk=λt=>#[p0,p1,.p K 0,p3,p4,.p Cb 0,p6,p7,p8,p9,.p Xb 0,DK,DV,DF,C9,CV,CU,C6,C8,CZ,Df,C7,C4,CY,Dw,Di,Dj,Dg,Dh,Dy,Dx,DC,DB,DA,Dz,DH,Ek,Eu,EE,Ej,Em,Er,Eo,En,Ei,Eh,Ds,DU,DW,DI,DG,t 0,t 1,t 2,t 3,t 4,t 5,t 6,t 7,DY,EA,Ey,Ew,Ex,Ez,El,Ep,DM,Fk,Fg,Fo,Fm,Fp,Fl,Fq,Ff,Fj])(Q:Exit->Act->World->Prop)(hQ:∀(t:Nat->Value)(v3:Value) X,Rq W (n+1) 9 (BO cc (n*9) (AR [.i c.ver,.bool c.gone,.s c.ob.kind,.s c.ob.name,.i c.ob.ver,.i c.ob.born,.s c.ob.text,.bool c.ob.ending,.l adc c.ob.hn capc])) v3 X/\Below W.1.size W X->Q .normal ⟨mk t,[]⟩ (X.setCell ⟨Xb,3,none⟩ v3)):Code.wp prog (rg Try.f71 13) Q ⟨mk t0,[]⟩ W:=by
 refine bL Ze 8 3 5 6 Zb (AQ rfl) (AQ rfl) mk t0 (tI K Xb ad n cap c adc capc)
  (Rq W n 9 cc) (nI W 9 (AR [.i c.ver,.bool c.gone,.s c.ob.kind,.s c.ob.name,.i c.ob.ver,.i c.ob.born,.s c.ob.text,.bool c.ob.ending,.l adc c.ob.hn capc])) (Rq W (n+1) 9 (BO cc (n*9) (AR [.i c.ver,.bool c.gone,.s c.ob.kind,.s c.ob.name,.i c.ob.ver,.i c.ob.born,.s c.ob.text,.bool c.ob.ending,.l adc c.ob.hn capc]))) (λac Y=>∃(t:Nat->Value)(v3:Value)(X:World),ac=⟨mk t,[]⟩/\Y=X.setCell ⟨Xb,3,none⟩ v3/\Rq W (n+1) 9 (BO cc (n*9) (AR [.i c.ver,.bool c.gone,.s c.ob.kind,.s c.ob.name,.i c.ob.ver,.i c.ob.born,.s c.ob.text,.bool c.ob.ending,.l adc c.ob.hn capc])) v3 X/\Below W.1.size W X) Ze Ze Ze (λ_ _ _ h hb=>h.grow hb) (λ_ _ _ h hb=>h.grow hb) (λ_ _ _ h hb=>h.grow hb) (λ_ _ _ _ h hk=>h.lt hk) (λ_ _ _ h=>h.lt) rfl ?_ ?_ ?_ ?_ ?_ ?_;all_goals subst hmk
 .intro i hi1 g3 g5 g6 t X KK hb hg hK;rcases(show i=0\/i=1\/i=2\/i=4\/i=7 by omega)with rfl|rfl|rfl|rfl|rfl;.have h:=hK (.l (some ⟨X.1.size,0,none⟩) 0 0) (X.alloc (.cells #[] 40)) ⟨_,rfl⟩ AG;refine Ag rfl rfl ?_;clear hK hg;go_simp;simpa[Av]using h
  .exact sg
  .have ea:t 1=_:=hg 1 (AQ rfl);have l0:=(hb.cell (p:=⟨K,3,none⟩) hKz).trans h3;have zl:=Ac hKz hb.size;exact sg
  .have l0:=(hb.cell (p:=⟨Cb,0,none⟩) hch.lt).trans (hch.cell 0 Zb);have l1:=(hb.cell (p:=⟨Cb,1,none⟩) hch.lt).trans (hch.cell 1 Zb);have l2:=(hb.cell (p:=⟨Cb,2,none⟩) hch.lt).trans (hch.cell 2 Zb);have l3:=(hb.cell (p:=⟨Cb,3,none⟩) hch.lt).trans (hch.cell 3 Zb);have l4:=(hb.cell (p:=⟨Cb,4,none⟩) hch.lt).trans (hch.cell 4 Zb);have l5:=(hb.cell (p:=⟨Cb,5,none⟩) hch.lt).trans (hch.cell 5 Zb);have l6:=(hb.cell (p:=⟨Cb,6,none⟩) hch.lt).trans (hch.cell 6 Zb);have l7:=(hb.cell (p:=⟨Cb,7,none⟩) hch.lt).trans (hch.cell 7 Zb);have l8:=(hb.cell (p:=⟨Cb,8,none⟩) hch.lt).trans (hch.cell 8 Zb);simp only[AR,Aa,Ab]at l0 l1 l2 l3 l4 l5 l6 l7 l8;have zl:=Ac hch.lt hb.size;exact sg
  .exact sg
 .intro t X KK hb hg hK;obtain⟨b0,e0⟩:∃b,t 0=.l (some ⟨b,0,none⟩) 0 0:=hg 0 (AQ rfl);have e2:t 2=_:=hg 2 (AQ rfl);obtain⟨v,Y,hrun,hrw,hnew,hbY⟩:=Rb (P:=prog) W X hb 24 24 40 9 112 (.agg #[.i 0,.bool false,.s ByteArray.empty,.s ByteArray.empty,.i 0,.i 0,.s ByteArray.empty,.bool false,.l none 0 0]) underlying24 KO Za rfl lo hi b0 ad n cap cc (hs.belowR hb hhi) Za Za;exact CN rfl rfl (.tmp 51) (.tmp 53) 24 24 rfl (by exact e0) (by exact e2) hrun (hK v Y trivial hrw hnew hbY)
 .intro t X KK hb hg hK;have e4:t 4=_:=hg 4 (AQ rfl);have h:=hK (.l (some ⟨X.1.size,0,none⟩) 1 1) (X.alloc (.cells #[.i c.ver,.bool c.gone,.s c.ob.kind,.s c.ob.name,.i c.ob.ver,.i c.ob.born,.s c.ob.text,.bool c.ob.ending,.l adc c.ob.hn capc] 40)) trivial ⟨X.1.size,rfl,hb.size,Zc,⟨λj hj=>by have hr:=AN.new (w:=X) (l:=[.i c.ver,.bool c.gone,.s c.ob.kind,.s c.ob.name,.i c.ob.ver,.i c.ob.born,.s c.ob.text,.bool c.ob.ending,.l adc c.ob.hn capc]) (t:=40) EF;exact⟨X.1.size,0,rfl,AD _,By _,by rw[A6];exact hr.cell j (by simpa using hj)⟩,λj hj=>by rcases(show j=0\/j=1\/j=2\/j=3\/j=4\/j=5\/j=6\/j=7\/j=8 by omega)with rfl|rfl|rfl|rfl|rfl|rfl|rfl|rfl|rfl<;>rfl⟩⟩ (λh m e=>by cases e;exact AD _) AG;refine Ag rfl rfl ?_;clear hK hg;simp only[e4];go_simp;simpa[Av,e4]using h
 .intro t X KK hb hg ra rb _ hK;obtain⟨b8,e8,_,_,s8⟩:=rb;obtain⟨v,Y,hrun,hrw,hbY⟩:=O8 (P:=prog) W X hb 24 24 40 9 112 (.agg #[.i 0,.bool false,.s ByteArray.empty,.s ByteArray.empty,.i 0,.i 0,.s ByteArray.empty,.bool false,.l none 0 0]) underlying24 KO Za rfl n cc hs.one (t 3) ra b8 (b8+1) (some ⟨b8,0,none⟩) 1 1 (AR [.i c.ver,.bool c.gone,.s c.ob.kind,.s c.ob.name,.i c.ob.ver,.i c.ob.born,.s c.ob.text,.bool c.ob.ending,.l adc c.ob.hn capc]) s8 (AC Za) Za Za;exact CN rfl rfl (.tmp 54) (.tmp 56) 24 24 rfl rfl (by exact e8) hrun (hK v Y trivial hrw hbY)
 .intro t X KK hb hg rd hK;have e7:t 7=_:=hg 7 Za;have h:=hK ⟨#[p0,p1,.p K 0,p3,p4,.p Cb 0,p6,p7,p8,p9,.p Xb 0,DK,DV,DF,C9,CV,CU,C6,C8,CZ,Df,C7,C4,CY,Dw,Di,Dj,Dg,Dh,Dy,Dx,DC,DB,DA,Dz,DH,Ek,Eu,EE,Ej,Em,Er,Eo,En,Ei,Eh,Ds,DU,DW,DI,DG,t 0,t 1,t 2,t 3,t 4,t 5,t 6,t 7,DY,EA,Ey,Ew,Ex,Ez,El,Ep,DM,Fk,Fg,Fo,Fm,Fp,Fl,Fq,Ff,Fj],[]⟩ (X.setCell ⟨Xb,3,none⟩ (t 6)) ⟨t,t 6,X,rfl,rfl,rd,hb⟩;have l0:=(hb.cell (p:=⟨Xb,3,none⟩) hX).trans hx3;have lf:=(hb.frozen (p:=⟨Xb,3,none⟩) hX).trans hf;have zl:=Ac hX hb.size;obtain⟨ad3,g3,cp3,e6,_,_⟩:=rd;refine Ag rfl rfl ?_;clear hK hg;rw[e6]at h;simp only[e6,e7]at h⊢;go_simp;simpa[e6,e7]using h
 .rintro ac X ⟨t,v3,X0,rfl,rfl,h1,h2⟩;exact hQ t v3 X0 ⟨h1,h2⟩
end Go.Proofs.Ytnnjcenacidceaa
namespace Go.Proofs.Ytnnjcenacidceaa
open Go.RowKit Go.Maps Go.Proofs.Try
theorem B4.grow5{w:World}{lo hi hi':Nat}{ad:OA}{n:Nat}{x:Nat->Ob}(h:B4 w lo hi ad n x)(hh:hi<=hi'):B4 w lo hi' ad n x:=λi hi2=>by obtain⟨b,off,ah,ch,e1,e2,e3,e4,e5⟩:=h i hi2;refine⟨b,off,ah,ch,e1,e2,Za,e4,λj hj=>?_⟩;obtain⟨b',off',g1,g2,g3,g4⟩:=e5 j hj;exact⟨b',off',g1,g2,Za,g4⟩
theorem QZ (B:Bk)(v:Wr)(a1 a2 a3:OA)(c1 c2 c3:Nat)(w:World)(hok:Nv B v)(hc:BF w 0 w.1.size B a1 a2 a3)(h0:¬BJ B v=0)(h4:¬BJ B v=4):Calls prog 71 #[.agg (vB B a1 a2 a3 c1 c2 c3),.agg (vW v)] w λe w'=>e=.returned (.agg #[.i (BJ B v),.i B.now,.i B.floor,.l a1 B.on c1,.l a2 B.hn c2,.l a3 B.tn c3,.i 0])/\Below w.1.size w w':=by
 have B3:∀o1 o2 o3,Below w.1.size w (((w.alloc o1).alloc o2).alloc o3):=λo1 o2 o3=>(((Ao _ _).alloc uK _).alloc Zc _).alloc Zd _;have Lg:=Ah B3;clear B3;have n9:=Ah hok.wr;have nS:=Ah hok.wf;have Mz:=Ah hok;have HC:=Ah hc.o;have uD:=Ah hc;clear hok hc;have H0:=Ah h0;have H4:=Ah h4;clear h0 h4;go_enter func71,ntmps71;go_wp2_with fail;refine(Le v nS _).mono ?_;rintro e w1 ⟨rfl,hb1⟩;rw[n9.out];have z1:w.1.size+1+1<w1.1.size:=by have:=hb1.size;simp at this;omega
 have Pa:=Ah hb1;have Ma:=Ah ((Lg _ _ _).trans (hb1.mono Zd));obtain⟨X0,X1,X2,Y1,Y2⟩:=BA hb1;have b0:=X0 0;have b1:=X0 1;have b2:=X0 2;have b3:=X0 3;have b4:=X0 4;have p0:=X1 0;have p1:=X1 1;have p2:=X1 2;have p3:=X1 3;have p4:=X1 4;have p5:=X1 5;have r0:=X2 0;have r1:=X2 1;have r2:=X2 2;have r3:=X2 3;have r4:=X2 4;have r5:=X2 5;have r6:=X2 6;simp only[Af,Ae,Ad]at b0 b1 b2 b3 b4 p0 p1 p2 p3 p4 p5 r0 r1 r2 r3 r4 r5 r6;clear X0 X1 X2;clear hb1;go_wp2_with fail;refine(T5 B v a1 a2 a3 c1 c2 c3 w1 Mz (HC.below Ma uK|>.grow5 Ma.size)).mono ?_;rintro e w2 ⟨hb2,hres⟩;rcases hres with⟨_,rfl⟩|⟨hz,_⟩;rotate_left;.exact absurd hz H0
 have hb3:=Pa.trans (hb2.mono Pa.size);have z2:w.1.size+1+1<w2.1.size:=by have:=hb2.size;omega
 have Si:=Ah (Ma.trans (hb2.mono Ma.size));clear b0 b1 b2 b3 b4 p0 p1 p2 p3 p4 p5 r0 r1 r2 r3 r4 r5 r6 Y1 Y2;obtain⟨X0,X1,X2,Y1,Y2⟩:=BA hb3;have b0:=X0 0;have b1:=X0 1;have b2:=X0 2;have b3:=X0 3;have b4:=X0 4;have p0:=X1 0;have p1:=X1 1;have p2:=X1 2;have p3:=X1 3;have p4:=X1 4;have p5:=X1 5;have r0:=X2 0;have r1:=X2 1;have r2:=X2 2;have r3:=X2 3;have r4:=X2 4;have r5:=X2 5;have r6:=X2 6;simp only[Af,Ae,Ad]at b0 b1 b2 b3 b4 p0 p1 p2 p3 p4 p5 r0 r1 r2 r3 r4 r5 r6;clear X0 X1 X2;clear hb3 hb2 z1 Ma;have zA1:w.1.size<w2.1.size:=Za;have zA2:w.1.size<w2.1.size+1:=Za;have zA3:w.1.size<w2.1.size+1+1:=Za;have zA4:w.1.size<w2.1.size+1+1+1:=Za;have zB1:w.1.size+1<w2.1.size:=Za;have zB2:w.1.size+1<w2.1.size+1:=Za;have zB3:w.1.size+1<w2.1.size+1+1:=Za;have zB4:w.1.size+1<w2.1.size+1+1+1:=Za;have zC1:w.1.size+1+1<w2.1.size:=Za;have zC2:w.1.size+1+1<w2.1.size+1:=Za;have zC3:w.1.size+1+1<w2.1.size+1+1:=Za;have zC4:w.1.size+1+1<w2.1.size+1+1+1:=Za;have Ma:=Si;clear Si;have H0b:(BJ B v !=0)=true:=by simpa using H0.out
 have H4b:(BJ B v==4)=false:=by simpa using H4.out
 obtain⟨cc,hcc⟩:∃cc,BJ B v=cc:=⟨_,rfl⟩;have SA:=Ah hcc;rw[hcc]at H0b H4b⊢;clear hcc;go_wp2;refine bodyPost_ret (v:=.agg #[.i cc,.i B.now,.i B.floor,.l a1 B.on c1,.l a2 B.hn c2,.l a3 B.tn c3,.i 0]) (by simp[results,results71,go_sem,r0,r1,r2,r3,r4,r5,r6,(show w.1.size+1+1<w2.1.size by omega),(show w.1.size+1+1<w2.1.size+1 by omega),Ns]) rfl ⟨by rw[SA.out],by repeat(first|with_reducible exact Ma.out|with_reducible refine Bs ?_ Zi _|with_reducible refine B7 ?_ Zi _|with_reducible refine Cd ?_)⟩
theorem Wq (B:Bk)(v:Wr)(a1 a2 a3:OA)(c1 c2 c3:Nat)(w:World)(hok:Nv B v)(hc:BF w 0 w.1.size B a1 a2 a3)(h4:BJ B v=4):Calls prog 71 #[.agg (vB B a1 a2 a3 c1 c2 c3),.agg (vW v)] w λe w'=>e=.returned (.agg #[.i 4,.i B.now,.i B.floor,.l a1 B.on c1,.l a2 B.hn c2,.l a3 B.tn c3,.i (BV B v).ver])/\Below w.1.size w w':=by
 have B3:∀o1 o2 o3,Below w.1.size w (((w.alloc o1).alloc o2).alloc o3):=λo1 o2 o3=>(((Ao _ _).alloc uK _).alloc Zc _).alloc Zd _;have Lg:=Ah B3;clear B3;have n9:=Ah hok.wr;have nS:=Ah hok.wf;have Mz:=Ah hok;have HC:=Ah hc.o;have uD:=Ah hc;clear hok hc;have H4:=Ah h4;clear h4;go_enter func71,ntmps71;go_wp2_with fail;refine(Le v nS _).mono ?_;rintro e w1 ⟨rfl,hb1⟩;rw[n9.out];have z1:w.1.size+1+1<w1.1.size:=by have:=hb1.size;simp at this;omega
 have Pa:=Ah hb1;have Ma:=Ah ((Lg _ _ _).trans (hb1.mono Zd));obtain⟨X0,X1,X2,Y1,Y2⟩:=BA hb1;have b0:=X0 0;have b1:=X0 1;have b2:=X0 2;have b3:=X0 3;have b4:=X0 4;have p0:=X1 0;have p1:=X1 1;have p2:=X1 2;have p3:=X1 3;have p4:=X1 4;have p5:=X1 5;have r0:=X2 0;have r1:=X2 1;have r2:=X2 2;have r3:=X2 3;have r4:=X2 4;have r5:=X2 5;have r6:=X2 6;simp only[Af,Ae,Ad]at b0 b1 b2 b3 b4 p0 p1 p2 p3 p4 p5 r0 r1 r2 r3 r4 r5 r6;clear X0 X1 X2;clear hb1;go_wp2_with fail;refine(T5 B v a1 a2 a3 c1 c2 c3 w1 Mz (HC.below Ma uK|>.grow5 Ma.size)).mono ?_;rintro e w2 ⟨hb2,hres⟩;rcases hres with⟨_,rfl⟩|⟨hz,_⟩;rotate_left;.exact absurd hz (by rw[H4.out];decide)
 have hb3:=Pa.trans (hb2.mono Pa.size);have z2:w.1.size+1+1<w2.1.size:=by have:=hb2.size;omega
 have Si:=Ah (Ma.trans (hb2.mono Ma.size));clear b0 b1 b2 b3 b4 p0 p1 p2 p3 p4 p5 r0 r1 r2 r3 r4 r5 r6 Y1 Y2;obtain⟨X0,X1,X2,Y1,Y2⟩:=BA hb3;have b0:=X0 0;have b1:=X0 1;have b2:=X0 2;have b3:=X0 3;have b4:=X0 4;have p0:=X1 0;have p1:=X1 1;have p2:=X1 2;have p3:=X1 3;have p4:=X1 4;have p5:=X1 5;have r0:=X2 0;have r1:=X2 1;have r2:=X2 2;have r3:=X2 3;have r4:=X2 4;have r5:=X2 5;have r6:=X2 6;simp only[Af,Ae,Ad]at b0 b1 b2 b3 b4 p0 p1 p2 p3 p4 p5 r0 r1 r2 r3 r4 r5 r6;clear X0 X1 X2;clear hb3 hb2 z1 Ma;have zA1:w.1.size<w2.1.size:=Za;have zA2:w.1.size<w2.1.size+1:=Za;have zA3:w.1.size<w2.1.size+1+1:=Za;have zA4:w.1.size<w2.1.size+1+1+1:=Za;have zB1:w.1.size+1<w2.1.size:=Za;have zB2:w.1.size+1<w2.1.size+1:=Za;have zB3:w.1.size+1<w2.1.size+1+1:=Za;have zB4:w.1.size+1<w2.1.size+1+1+1:=Za;have zC1:w.1.size+1+1<w2.1.size:=Za;have zC2:w.1.size+1+1<w2.1.size+1:=Za;have zC3:w.1.size+1+1<w2.1.size+1+1:=Za;have zC4:w.1.size+1+1<w2.1.size+1+1+1:=Za;have Ma:=Si;clear Si;rw[H4.out];have hon:(B.on:Int)<=100:=by have:=Mz.on;omega
 have VH:=Ah hon;go_wp2_with fail;refine(BK B.now B.floor B.on B.os a1 a2 a3 c1 B.hn c2 B.tn c3 v.kind v.name _ 0 w.1.size Zi XT Mz.out.fit.os (HC.out.below (by repeat(first|with_reducible exact Ma.out|with_reducible refine Bs ?_ Zi _|with_reducible refine B7 ?_ Zi _|with_reducible refine Cd ?_)) uK)).mono ?_;rintro e w3 ⟨A,C,rfl,_,_,hb4⟩;have hB4:Below w2.1.size w2 w3:=((An _ _).alloc Zc _).trans (hb4.mono Zd);have hd:=AN.new (w:=w2.alloc (.cells #[.i 0,.bool false,.s ⟨#[]⟩,.s ⟨#[]⟩,.i 0,.i 0,.s ⟨#[]⟩,.bool false,.l none 0 0] 40)) (l:=[.i 4,.i B.now,.i B.floor,.l a1 B.on c1,.l a2 B.hn c2,.l a3 B.tn c3,.i 0]) (t:=111) hb4;rw[Aw]at hd;have z3:w2.1.size+1<w3.1.size:=by have:=hb4.size;simp at this;omega
 have ZK:=Ah (Ma.trans (hB4.mono Ma.size));have y2:∀i,w3.frozen? ⟨w.1.size+1+1,i,none⟩=false:=λi=>(hB4.frozen (p:=⟨w.1.size+1+1,i,none⟩) zC1).trans (Y2 i);have s0:=(hB4.cell (p:=⟨w.1.size+1+1,0,none⟩) zC1).trans r0;have s1:=(hB4.cell (p:=⟨w.1.size+1+1,1,none⟩) zC1).trans r1;have s2:=(hB4.cell (p:=⟨w.1.size+1+1,2,none⟩) zC1).trans r2;have s3:=(hB4.cell (p:=⟨w.1.size+1+1,3,none⟩) zC1).trans r3;have s4:=(hB4.cell (p:=⟨w.1.size+1+1,4,none⟩) zC1).trans r4;have s5:=(hB4.cell (p:=⟨w.1.size+1+1,5,none⟩) zC1).trans r5;have s6:=(hB4.cell (p:=⟨w.1.size+1+1,6,none⟩) zC1).trans r6;have d0:=hd.cell 0 Zc;have d1:=hd.cell 1 Zc;have d2:=hd.cell 2 Zc;have d3:=hd.cell 3 Zc;have d4:=hd.cell 4 Zc;have d5:=hd.cell 5 Zc;have d6:=hd.cell 6 Zc;have df:=hd.free;simp only[AR,Aa,Ab]at d0 d1 d2 d3 d4 d5 d6;clear b0 b1 b2 b3 b4 p0 p1 p2 p3 p4 p5 r0 r1 r2 r3 r4 r5 r6 Y1 Y2;clear hb4 hB4 hd Ma zA1 zA2 zA3 zA4 zB1 zB2 zB3 zB4 zC2 zC3 zC4;have zz:w.1.size+1+1<w3.1.size:=Za;have zz2:w.1.size+1+1<w3.1.size+1:=Za;have zy:w2.1.size+1<w3.1.size+1:=Za;have Ma:=ZK;clear ZK;go_wp2;refine bodyPost_ret (v:=.agg #[.i 4,.i B.now,.i B.floor,.l a1 B.on c1,.l a2 B.hn c2,.l a3 B.tn c3,.i (BN B.os v.kind v.name B.on).ver]) (by simp[results,results71,go_sem,s0,s1,s2,s3,s4,s5,s6,zz,Ns]) rfl ⟨rfl,by repeat(first|with_reducible exact Ma.out|with_reducible refine Bs ?_ Zi _|with_reducible refine B7 ?_ Zi _|with_reducible refine Cd ?_)⟩
end Go.Proofs.Ytnnjcenacidceaa
namespace Go.Proofs.Ytnnjcenacidceaa
open Go.RowKit Go.Maps Go.Proofs.Try
theorem Px{X Y:World}{hi r xb:Nat}{A:OA}{n:Nat}{s:Nat->ByteArray}(h:AB X 0 hi A n s)(hr:∀j t,¬X.cell? ⟨r,j,none⟩=some (.s t))(hf:Az (λq=>q=r\/q=xb) X Y)(hx:hi<=xb)(hz:hi<=X.1.size):AB Y 0 Y.1.size A n s:=λi hi'=>by
 obtain⟨b,off,e1,_,e3,e4⟩:=h i hi';refine⟨b,off,e1,At _,Ac (Ac e3 hz) hf.size,(hf.cell (p:=⟨b,off+i,none⟩) (Ac e3 hz) ?_).trans e4⟩;rintro(e|e);.have e':b=r:=e;rw[e']at e4;exact hr _ _ e4
 .have e':b=xb:=e;omega
theorem eG{X Y:World}{base hi r xb:Nat}{v:Value}{m:Nat}{y:Nat->Ob}{A:Nat->Option Addr}{C:Nat->Nat}(h:jJ X base 0 hi v m y A C)(hr:∀j t,¬X.cell? ⟨r,j,none⟩=some (.s t))(hf:Az (λq=>q=r\/q=xb) X Y)(hx:hi<=xb)(hz:hi<=X.1.size)(hb:xb<base)(hrb:r<base):∃ad cap,v=.l ad m cap/\B4 Y 0 Y.1.size ad m y:=by
 obtain⟨c,ho,hat⟩:=h.row;rcases Bm m with h0|h0;.obtain⟨ad,cap,e⟩:=NY ho;exact⟨ad,cap,e,λi hi'=>absurd hi' Za⟩
 .obtain⟨g,cap,e,hg,r0⟩:=SK ho h0;have r1:=r0.fr hf (by rintro(e|e)<;>omega);refine⟨_,cap,e,λi hi'=>?_⟩;obtain⟨a0,a1,a2,a3,a4,a5,a6⟩:=hat i hi';refine⟨g,0,A i,C i,rfl,At _,r1.lt,?_,Px (h.hold i hi') hr hf hx hz⟩;rw[A6];exact⟨(r1.cell _ Za).trans (congrArg some a0),(r1.cell _ Za).trans (congrArg some a1),(r1.cell _ Za).trans (congrArg some a2),(r1.cell _ Za).trans (congrArg some a3),(r1.cell _ Za).trans (congrArg some a4),(r1.cell _ Za).trans (congrArg some a5),(r1.cell _ Za).trans (congrArg some a6)⟩
theorem cZ{_W X Y:World}{hi r xb n k:Nat}{cc:Nat->Value}{c:Ch}{adc:OA}{capc:Nat}{x:Nat->Ch}{A:Nat->Option Addr}{C:Nat->Nat}{g cp:Nat}(hrw:Rw X (some ⟨g,0,none⟩) g (n+1) cp 9 (BO cc (n*9) (AR [.i c.ver,.bool c.gone,.s c.ob.kind,.s c.ob.name,.i c.ob.ver,.i c.ob.born,.s c.ob.text,.bool c.ob.ending,.l adc c.ob.hn capc])))(_hcp:0<cp)(hat:∀i,i<n->Qr cc i (x i) (A i) (C i))(hho:∀i,i<n->AB X 0 hi (A i) (x i).ob.hn (x i).ob.hs)(hhc:AB X 0 hi adc c.ob.hn c.ob.hs)(hr:∀j t,¬X.cell? ⟨r,j,none⟩=some (.s t))(hf:Az (λq=>q=r\/q=xb) X Y)(hx:hi<=xb)(hz:hi<=X.1.size)(hg:¬g=r/\¬g=xb)(hk:k<=n):CO Y 0 Y.1.size (some ⟨g,k*9,none⟩) (n+1-k) (λi=>if i+k<n then x (i+k)else c):=λi hi'=>by
 have r1:AN Y g ((n+1)*9) (BO cc (n*9) (AR [.i c.ver,.bool c.gone,.s c.ob.kind,.s c.ob.name,.i c.ob.ver,.i c.ob.born,.s c.ob.text,.bool c.ob.ending,.l adc c.ob.hn capc])):=(hrw.rowF Za).2.fr hf (by rintro(e|e);exact hg.1 e;exact hg.2 e);by_cases h:i+k<n;.obtain⟨a0,a1,a2,a3,a4,a5,a6,a7,a8⟩:=hat (i+k) h;refine⟨g,k*9,A (i+k),C (i+k),rfl,At _,r1.lt,?_,by dsimp only;rw[if_pos h];exact Px (hho _ h) hr hf hx hz⟩;dsimp only;rw[if_pos h,show k*9+i*9=(i+k)*9 by omega];have q:∀j,j<9->Y.cell? ⟨g,(i+k)*9+j,none⟩=some (cc ((i+k)*9+j)):=λj hj=>(r1.cell _ Za).trans (by unfold BO;rw[if_pos Za]);exact⟨(q 0 Za).trans (congrArg some a0),(q 1 Za).trans (congrArg some a1),(q 2 Za).trans (congrArg some a2),(q 3 Za).trans (congrArg some a3),(q 4 Za).trans (congrArg some a4),(q 5 Za).trans (congrArg some a5),(q 6 Za).trans (congrArg some a6),(q 7 Za).trans (congrArg some a7),(q 8 Za).trans (congrArg some a8)⟩
 .have e:i+k=n:=Za;refine⟨g,k*9,adc,capc,rfl,At _,r1.lt,?_,by dsimp only;rw[if_neg h];exact Px hhc hr hf hx hz⟩;dsimp only;rw[if_neg h,show k*9+i*9=n*9 by omega];have q:∀j,j<9->Y.cell? ⟨g,n*9+j,none⟩=some (AR [.i c.ver,.bool c.gone,.s c.ob.kind,.s c.ob.name,.i c.ob.ver,.i c.ob.born,.s c.ob.text,.bool c.ob.ending,.l adc c.ob.hn capc] j):=λj hj=>(r1.cell _ Za).trans (by unfold BO;rw[if_neg Za,Cl]);exact⟨q 0 Za,q 1 Za,q 2 Za,q 3 Za,q 4 Za,q 5 Za,q 6 Za,q 7 Za,q 8 Za⟩
theorem Yx{w X Y:World}{r xb:Nat}{ad:OA}{n:Nat}{x:Nat->Ti}(h:DZ w 0 w.1.size ad n x)(hb:Below w.1.size w X)(hf:Az (λq=>q=r\/q=xb) X Y)(hr:w.1.size<=r)(hx:w.1.size<=xb):DZ Y 0 Y.1.size ad n x:=λi hi=>by obtain⟨b,off,e1,_,e3,e4⟩:=h i hi;have e5:=e4.below hb e3;have zX:=hb.size;have q:∀j,Y.cell? ⟨b,j,none⟩=X.cell? ⟨b,j,none⟩:=λj=>hf.cell (p:=⟨b,j,none⟩) (show b<_ by omega) (by rintro(e|e)<;>(have e':b=_:=e;omega));exact⟨b,off,e1,At _,by have:=hf.size;omega,⟨(q _).trans e5.c0,(q _).trans e5.c1,(q _).trans e5.c2,(q _).trans e5.c3,(q _).trans e5.c4⟩⟩
end Go.Proofs.Ytnnjcenacidceaa
namespace Go.Proofs.Ytnnjcenacidceaa
open Go.RowKit Go.Maps Go.Proofs.Try
def yL (B:Bk)(v:Wr)(A3:OA)(C3:Nat)(w:World)(e:Ending)(w':World):Prop:=Below w.1.size w w'/\∃(a1 a2 a3:OA)(c1 c2 c3:Nat),e=.returned (.agg #[.i 0,.i (LX B v).now,.i (LX B v).floor,.l a1 (LX B v).on c1,.l a2 (LX B v).hn c2,.l a3 (LX B v).tn c3,.i (B.now+1)])/\BF w' 0 w'.1.size (LX B v) a1 a2 a3/\a3=A3/\c3=C3
theorem AB.up5{w:World}{lo hi hi':Nat}{ad:OA}{n:Nat}{s:Nat->ByteArray}(h:AB w lo hi ad n s)(hh:hi<=hi'):AB w lo hi' ad n s:=λi h'=>by obtain⟨b,off,e1,e2,e3,e4⟩:=h i h';exact⟨b,off,e1,e2,Za,e4⟩
theorem gM{w X Y:World}{a b:Nat}(h:Below w.1.size w X)(hf:Az (λq=>q=a\/q=b) X Y)(ha:w.1.size<=a)(hb:w.1.size<=b):Below w.1.size w Y:=h.trans (hf.below (λq hq e=>by rcases e with e|e<;>omega) h.size)
theorem TY (B:Bk)(v:Wr)(a1 a2 a3:OA)(c1 c2 c3:Nat)(w:World)(hok:Nv B v)(hc:BF w 0 w.1.size B a1 a2 a3)(h0:BJ B v=0):Calls prog 71 #[.agg (vB B a1 a2 a3 c1 c2 c3),.agg (vW v)] w λe w'=>yL B v a3 c3 w e w':=by
 have B3:∀o1 o2 o3,Below w.1.size w (((w.alloc o1).alloc o2).alloc o3):=λo1 o2 o3=>(((Ao _ _).alloc uK _).alloc Zc _).alloc Zd _;have Lg:=Ah B3;clear B3;have n9:=Ah hok.wr;have nS:=Ah hok.wf;have Mz:=Ah hok;have HC:=Ah hc.o;have uD:=Ah hc;clear hok hc;have H0:=Ah h0;clear h0;go_enter func71,ntmps71;go_wp2_with fail;refine(Le v nS _).mono ?_;rintro e w1 ⟨rfl,hb1⟩;rw[n9.out];have z1:w.1.size+1+1<w1.1.size:=by have:=hb1.size;simp at this;omega
 have Pa:=Ah hb1;have Ma:=Ah ((Lg _ _ _).trans (hb1.mono Zd));obtain⟨X0,X1,X2,Y1,Y2⟩:=BA hb1;have b0:=X0 0;have b1:=X0 1;have b2:=X0 2;have b3:=X0 3;have b4:=X0 4;have p0:=X1 0;have p1:=X1 1;have p2:=X1 2;have p3:=X1 3;have p4:=X1 4;have p5:=X1 5;have r0:=X2 0;have r1:=X2 1;have r2:=X2 2;have r3:=X2 3;have r4:=X2 4;have r5:=X2 5;have r6:=X2 6;simp only[Af,Ae,Ad]at b0 b1 b2 b3 b4 p0 p1 p2 p3 p4 p5 r0 r1 r2 r3 r4 r5 r6;clear X0 X1 X2;clear hb1;go_wp2_with fail;refine(T5 B v a1 a2 a3 c1 c2 c3 w1 Mz (HC.below Ma uK|>.grow5 Ma.size)).mono ?_;rintro e w2 ⟨hb2,hres⟩;rcases hres with⟨hz,_⟩|⟨_,A,C,rfl,hsc⟩;.exact absurd H0.out hz
 have vE:=Ah hsc;clear hsc;have hb3:=Pa.trans (hb2.mono Pa.size);have z2:w.1.size+1+1<w2.1.size:=by have:=hb2.size;omega
 have Si:=Ah (Ma.trans (hb2.mono Ma.size));clear b0 b1 b2 b3 b4 p0 p1 p2 p3 p4 p5 r0 r1 r2 r3 r4 r5 r6 Y1 Y2;obtain⟨X0,X1,X2,Y1,Y2⟩:=BA hb3;have b0:=X0 0;have b1:=X0 1;have b2:=X0 2;have b3:=X0 3;have b4:=X0 4;have p0:=X1 0;have p1:=X1 1;have p2:=X1 2;have p3:=X1 3;have p4:=X1 4;have p5:=X1 5;have r0:=X2 0;have r1:=X2 1;have r2:=X2 2;have r3:=X2 3;have r4:=X2 4;have r5:=X2 5;have r6:=X2 6;simp only[Af,Ae,Ad]at b0 b1 b2 b3 b4 p0 p1 p2 p3 p4 p5 r0 r1 r2 r3 r4 r5 r6;clear X0 X1 X2;have uV:=Ah hb3;clear hb3 hb2 z1 Ma;have zA1:w.1.size<w2.1.size:=Za;have zA2:w.1.size<w2.1.size+1:=Za;have zA3:w.1.size<w2.1.size+1+1:=Za;have zA4:w.1.size<w2.1.size+1+1+1:=Za;have zB1:w.1.size+1<w2.1.size:=Za;have zB2:w.1.size+1<w2.1.size+1:=Za;have zB3:w.1.size+1<w2.1.size+1+1:=Za;have zB4:w.1.size+1<w2.1.size+1+1+1:=Za;have zC1:w.1.size+1+1<w2.1.size:=Za;have zC2:w.1.size+1+1<w2.1.size+1:=Za;have zC3:w.1.size+1+1<w2.1.size+1+1:=Za;have zC4:w.1.size+1+1<w2.1.size+1+1+1:=Za;have Ma:=Si;clear Si;have hon:(B.on:Int)<=100:=by have:=Mz.on;omega
 have VH:=Ah hon;clear hon;obtain⟨c,hcw⟩:∃c,Ec B v=c:=⟨_,rfl⟩;rw[hcw]at vE⊢;have zD:=Ah hcw;clear hcw;go_wp2_with fail;refine(YH B.on B.os a1 c1 c A C _ 0 w2.1.size Zd XT ((HC.out.below (B:=w.1.size) (by repeat(first|with_reducible exact Ma.out|with_reducible refine Bs ?_ Zi _|with_reducible refine B7 ?_ Zi _|with_reducible refine Cd ?_)) uK).grow5 Za) (vE.out.below (B:=w2.1.size) ((An _ _).alloc Zc _) uK)).mono ?_;rintro e w3 ⟨u,A1,C1,rfl,hbd,hb4⟩;obtain⟨a1n,c1n,rfl⟩:∃ad cap,u=.l ad (KM B.on B.os c.ob c.gone).m cap:=by obtain⟨_,ho,_⟩:=hbd.row;exact NY ho
 obtain⟨m,hm⟩:∃m,(KM B.on B.os c.ob c.gone).m=m:=⟨_,rfl⟩;rw[hm]at hbd⊢;have HM:=Ah hm;clear hm;have hB2:Below w2.1.size w2 w3:=((An _ _).alloc Zc _).trans (hb4.mono Zd);have hcr:AN w3 w2.1.size 9 (AR [.i c.ver,.bool c.gone,.s c.ob.kind,.s c.ob.name,.i c.ob.ver,.i c.ob.born,.s c.ob.text,.bool c.ob.ending,.l A c.ob.hn C]):=AN.new (w:=w2) (l:=[.i c.ver,.bool c.gone,.s c.ob.kind,.s c.ob.name,.i c.ob.ver,.i c.ob.born,.s c.ob.text,.bool c.ob.ending,.l A c.ob.hn C]) (t:=40) ((An _ _).trans (hb4.mono Zc));have hxr:=AN.new (w:=w2.alloc (.cells #[.i c.ver,.bool c.gone,.s c.ob.kind,.s c.ob.name,.i c.ob.ver,.i c.ob.born,.s c.ob.text,.bool c.ob.ending,.l A c.ob.hn C] 40)) (l:=[.i c.ver,.i B.floor,.l a1 B.on c1,.l a2 B.hn c2,.l a3 B.tn c3]) (t:=27) hb4;rw[Aw]at hxr;have Vv:=Ah hB2;have z3:w2.1.size+1<w3.1.size:=by have:=hb4.size;simp at this;omega
 simp only[Aw]at hbd;have Qh:=Ah hbd;have ZK:=Ah (Ma.trans (hB2.mono Ma.size));have y2:∀i,w3.frozen? ⟨w.1.size+1+1,i,none⟩=false:=λi=>(hB2.frozen (p:=⟨w.1.size+1+1,i,none⟩) zC1).trans (Y2 i);have g3:=(hB2.cell (p:=⟨w.1.size,3,none⟩) zA1).trans b3;have s0:=(hB2.cell (p:=⟨w.1.size+1+1,0,none⟩) zC1).trans r0;have s1:=(hB2.cell (p:=⟨w.1.size+1+1,1,none⟩) zC1).trans r1;have s2:=(hB2.cell (p:=⟨w.1.size+1+1,2,none⟩) zC1).trans r2;have s3:=(hB2.cell (p:=⟨w.1.size+1+1,3,none⟩) zC1).trans r3;have s4:=(hB2.cell (p:=⟨w.1.size+1+1,4,none⟩) zC1).trans r4;have s5:=(hB2.cell (p:=⟨w.1.size+1+1,5,none⟩) zC1).trans r5;have s6:=(hB2.cell (p:=⟨w.1.size+1+1,6,none⟩) zC1).trans r6;have yH:=Ah (show∀j t,¬w3.cell? ⟨w.1.size+1+1,j,none⟩=some (.s t)from λj t h=>by
  have h2:=(hB2.cell (p:=⟨w.1.size+1+1,j,none⟩) zC1).symm.trans h;have h3:=(BA uV).2.2.1 j;rw[h2]at h3;rcases(show j<7\/7<=j by omega)with h4|h4;.rcases(show j=0\/j=1\/j=2\/j=3\/j=4\/j=5\/j=6 by omega)with rfl|rfl|rfl|rfl|rfl|rfl|rfl<;>simp at h3
  .rw[A9 (by simpa using h4)]at h3;cases h3);have x0:=hxr.cell 0 Zc;have x1:=hxr.cell 1 Zc;have x2:=hxr.cell 2 Zc;have x3:=hxr.cell 3 Zc;have x4:=hxr.cell 4 Zc;have xf:=hxr.free;have d0:=hcr.cell 0 Zb;have d1:=hcr.cell 1 Zb;have d2:=hcr.cell 2 Zb;have d3:=hcr.cell 3 Zb;have d4:=hcr.cell 4 Zb;have d5:=hcr.cell 5 Zb;have d6:=hcr.cell 6 Zb;have d7:=hcr.cell 7 Zb;have d8:=hcr.cell 8 Zb;have df:=hcr.free;simp only[AR,Aa,Ab]at d0 d1 d2 d3 d4 d5 d6 d7 d8 x0 x1 x2 x3 x4;have zP:=Ah hcr;have ai:=Ah hxr;clear b0 b1 b2 b3 b4 p0 p1 p2 p3 p4 p5 r0 r1 r2 r3 r4 r5 r6 Y1 Y2;clear hb4 hcr hxr hbd Ma Lg Pa;have Ma:=ZK;have zw:w.1.size<w3.1.size:=Za;have zw2:w.1.size+1+1<w3.1.size:=Za;have zw3:w2.1.size<w3.1.size:=Za;clear ZK hB2;go_wp2;obtain⟨W,hW⟩:∃W,w3.setCell ⟨w2.1.size+1,2,none⟩ (.l a1n m c1n)=W:=⟨_,rfl⟩;rw[hW];have F4:Az (λq=>q=w2.1.size+1) w3 W:=by rw[<-hW];exact Az.setCell (P:=λq=>q=w2.1.size+1) (p:=⟨w2.1.size+1,2,none⟩) (Az.refl _ _) rfl _
 have hX4:AN W (w2.1.size+1) 5 (AR [.i c.ver,.i B.floor,.l a1n m c1n,.l a2 B.hn c2,.l a3 B.tn c3]):=by rw[<-hW];exact((show AN w3 (w2.1.size+1) 5 (AR [.i c.ver,.i B.floor,.l a1 B.on c1,.l a2 B.hn c2,.l a3 B.tn c3])from ai.out).set (o:=2) Zb _).congr (λj hj=>by rcases(show j=0\/j=1\/j=2\/j=3\/j=4 by omega)with rfl|rfl|rfl|rfl|rfl<;>rfl)
 have hC4:AN W w2.1.size 9 (AR [.i c.ver,.bool c.gone,.s c.ob.kind,.s c.ob.name,.i c.ob.ver,.i c.ob.born,.s c.ob.text,.bool c.ob.ending,.l A c.ob.hn C]):=zP.fr F4 Za;have zW:w3.1.size<=W.1.size:=F4.size;have hBW4:Below w.1.size w W:=by rw[<-hW];exact Ma.setCell (by show w.1.size<=w2.1.size+1;omega) _
 have Ug:=Ah (show∀j,W.cell? ⟨w.1.size+1+1,j,none⟩=w3.cell? ⟨w.1.size+1+1,j,none⟩from λj=>F4.cell (p:=⟨w.1.size+1+1,j,none⟩) zw2 (by show¬w.1.size+1+1=w2.1.size+1;omega));have v9:=Ah (show∀j,W.frozen? ⟨w.1.size+1+1,j,none⟩=false from λj=>(F4.frozen (p:=⟨w.1.size+1+1,j,none⟩) zw2 (by show¬w.1.size+1+1=w2.1.size+1;omega)).trans (y2 j));have k3:=(F4.cell (p:=⟨w.1.size,3,none⟩) zw (by show¬w.1.size=w2.1.size+1;omega)).trans g3;obtain⟨cc,A2,C2,hsrc,hatc,hstc⟩:=CO.src (uD.h.below hBW4 uK);have sH:=Ah hatc;have uW:=Ah hstc;have yA:=Ah F4;have YT:=Ah hX4;have rS:=Ah hC4;have jT:=Ah hBW4;refine iU (λ_=>undef) w.1.size w2.1.size (w2.1.size+1) a2 B.hn c2 c A C cc 0 w.1.size W Mz.hn Za hsrc Za k3 hC4 Za _ (hX4.cell 3 Zb) (hX4.free 3) rfl _ ?_;rintro t v3 X ⟨hrw,hbX⟩;obtain⟨ad3,gh,cp3,rfl,hr3,hl3⟩:=hrw;have hcp:0<cp3:=Ac Za hr3.le;have had:=hr3.addr hcp;subst had;have hgh:=hl3 hcp;have zX:=hbX.size;have zgh:=(hr3.room hcp).lt;have hle3:=hr3.le;have qV:=Ah hr3;have Tm:=Ah hbX;have hx5:=YT.below hbX Za;have hc5:=rS.below hbX Za;have e0:(B.hn=200)->X.cell? ⟨gh,0,none⟩=some (.i (B.hs 0).ver):=λh=>by rw[hr3.cell 0 Za];unfold BO;rw[if_pos Za];exact congrArg some (sH.out 0 Za).1
 clear d0 d1 d2 d3 d4 d5 d6 d7 d8 df x0 x1 x2 x3 x4 xf;have d0:=hc5.cell 0 Zb;have d1:=hc5.cell 1 Zb;have d2:=hc5.cell 2 Zb;have d3:=hc5.cell 3 Zb;have d4:=hc5.cell 4 Zb;have d5:=hc5.cell 5 Zb;have d6:=hc5.cell 6 Zb;have d7:=hc5.cell 7 Zb;have d8:=hc5.cell 8 Zb;have x0:=hx5.cell 0 Zb;have x1:=hx5.cell 1 Zb;have x2:=hx5.cell 2 Zb;have x3:=hx5.cell 3 Zb;have x4:=hx5.cell 4 Zb;have r0:=(Tm.cell (p:=⟨w.1.size+1+1,0,none⟩) Zl).trans ((Ug.out 0).trans s0);have r1:=(Tm.cell (p:=⟨w.1.size+1+1,1,none⟩) Zl).trans ((Ug.out 1).trans s1);have r2:=(Tm.cell (p:=⟨w.1.size+1+1,2,none⟩) Zl).trans ((Ug.out 2).trans s2);have r3:=(Tm.cell (p:=⟨w.1.size+1+1,3,none⟩) Zl).trans ((Ug.out 3).trans s3);have r4:=(Tm.cell (p:=⟨w.1.size+1+1,4,none⟩) Zl).trans ((Ug.out 4).trans s4);have r5:=(Tm.cell (p:=⟨w.1.size+1+1,5,none⟩) Zl).trans ((Ug.out 5).trans s5);have r6:=(Tm.cell (p:=⟨w.1.size+1+1,6,none⟩) Zl).trans ((Ug.out 6).trans s6);simp only[AR,Aa,Ab]at d0 d1 d2 d3 d4 d5 d6 d7 d8 x0 x1 x2 x3 x4;have df:=hc5.free;have xf:=hx5.free;have rf:∀j,X.frozen? ⟨w.1.size+1+1,j,none⟩=false:=λj=>(Tm.frozen (p:=⟨w.1.size+1+1,j,none⟩) Zl).trans (v9 j);clear s0 s1 s2 s3 s4 s5 s6 y2 g3 k3 hsrc hatc hstc F4 hX4 hC4 hBW4 hr3 hl3 hbX hx5 hc5 hW zA1 zA2 zA3 zA4 zB1 zB2 zB3 zB4 zC2 zC3 zC4;have zx1:w2.1.size<X.1.size:=Za;have zx2:w2.1.size+1<X.1.size:=Za;have zx3:w.1.size+1+1<X.1.size:=Za;have rY:=Ah (show∀(Y:World)(k cpn nn:Nat)(fl:Int),Az (λq=>q=w.1.size+1+1\/q=w2.1.size+1) X Y->k=Mk B->nn=B.hn+1-k->fl=(LX B v).floor->yL B v a3 c3 w (.returned (.agg #[.i 0,.i c.ver,.i fl,.l a1n m c1n,.l (some ⟨gh,k*9,none⟩) nn cpn,.l a3 B.tn c3,.i c.ver])) Y from λY k cpn nn fl hf hk hnn hfl=>by
  subst hk;subst hnn;subst hfl;have hf3:Az (λq=>q=w.1.size+1+1\/q=w2.1.size+1) w3 Y:=(yA.mono (λq e=>AC e)).trans ((Aq Tm).trans hf);obtain⟨ad,cap,e,ho⟩:=eG Qh yH hf3 Za Za Za Za;cases e;have hSX:∀j t,¬X.cell? ⟨w.1.size+1+1,j,none⟩=some (.s t):=λj t h=>yH.out j t (by rw[<-Ug.out j,<-Tm.cell (p:=⟨w.1.size+1+1,j,none⟩) Zl];exact h);have hck:Mk B<=B.hn:=by unfold Mk;split<;>omega
  have hh:=cZ (_W:=W) (k:=Mk B) qV hcp sH (λi hi=>((uW i hi).below Tm Za).up5 Za) (((vE.below Vv uK).frP yA Za (λq hq e=>by omega)).below Tm Za) hSX hf Za Za ⟨Za,Za⟩ hck;have ht:=Yx uD.t (jT.trans (Tm.mono jT.size)) hf Za Za;have ew:=zD.out;subst ew;have e1:(LX B v).on=m:=HM.out;have e2:(LX B v).hn=B.hn+1-Mk B:=by show B.hn-Mk B+1=_;omega
  have e3:(LX B v).hs=(λi=>if i+Mk B<B.hn then B.hs (i+Mk B)else Ec B v):=by
   funext i;show(if i<B.hn-Mk B then _ else _)=_;by_cases h:i<B.hn-Mk B;.rw[if_pos h,if_pos Za]
   .rw[if_neg h,if_neg Za]
  refine⟨gM (jT.trans (Tm.mono jT.size)) hf Za Za,a1n,some ⟨gh,Mk B*9,none⟩,a3,c1n,cpn,c3,?_,⟨?_,?_,ht⟩,rfl,rfl⟩;.rw[e1,e2];rfl
  .rw[e1];exact ho
  .rw[e2,e3];exact hh);by_cases hn200:B.hn=200;.have e0':=e0 hn200;have Ue:=Ah hn200;clear e0;go_wp2;refine bodyPost_ret (v:=.agg #[.i 0,.i c.ver,.i (B.hs 0).ver,.l a1n m c1n,.l (some ⟨gh,9,none⟩) 200 (cp3-1),.l a3 B.tn c3,.i c.ver]) (by simp[results,results71,go_sem,r0,r1,r2,r3,r4,r5,r6]) rfl (rY.out _ 1 (cp3-1) 200 _ (by repeat(first|with_reducible exact Az.refl _ _|with_reducible refine Az.setCell ?_ (by first|exact AA rfl|exact AC rfl) _)) (by unfold Mk;rw[if_pos Ue.out]) (by rw[Ue.out]) (by unfold LX;dsimp only;rw[if_pos Ue.out]))
 .have Ue:=Ah hn200;have hgt:(B.hn:Int)+1<=200:=by have:=Mz.hn;omega
  clear e0;go_wp2;refine bodyPost_ret (v:=.agg #[.i 0,.i c.ver,.i B.floor,.l a1n m c1n,.l (some ⟨gh,0,none⟩) (B.hn+1) cp3,.l a3 B.tn c3,.i c.ver]) (by simp[results,results71,go_sem,r0,r1,r2,r3,r4,r5,r6]) rfl (rY.out _ 0 cp3 (B.hn+1) _ (by repeat(first|with_reducible exact Az.refl _ _|with_reducible refine Az.setCell ?_ (by first|exact AA rfl|exact AC rfl) _)) (by unfold Mk;rw[if_neg Ue.out]) Za (by unfold LX;dsimp only;rw[if_neg Ue.out]))
end Go.Proofs.Ytnnjcenacidceaa
namespace Go.Proofs.Ytnnjcenacidceaa
open Go.RowKit Go.Maps Go.Proofs.Try
theorem N5{P:Ob->Prop}{f:Nat->Ob}{o:Ob}(h:∀j,P (f j))(ho:P o)(k:Nat):∀j,P (B8 f k o j):=λj=>by
 unfold B8;split;.exact ho
 .exact h j
theorem PC{P:Ob->Prop}{x:Nat->Ob}{o:Ob}{g:Bool}(ho:P o):∀k,(∀i,i<k->P (x i))->∀j,P ((E8 x o g k).y j)
 |0,_=>λ_=>ho
 |k+1,h=>by
  have ih:=PC (g:=g) ho k (λi hi=>h i Za);have hx:=h k Za;show∀j,P ((Cv o (x k) (E8 x o g k)).y j);unfold Cv;split
  .split;.exact ih
   .exact N5 ih hx _
  .split;.exact N5 ih hx _
   .split;.exact N5 ih ho _
    .exact N5 (N5 ih ho _) hx _
theorem Ry{P:Ob->Prop}{x:Nat->Ob}{o:Ob}{g:Bool}{n:Nat}(ho:P o)(h:∀i,i<n->P (x i)):∀j,P ((KM n x o g).y j):=by
 unfold KM Oo;split;.exact PC ho n h
 .exact N5 (PC ho n h) ho _
theorem Tf (n:Nat)(x:Nat->Ob)(o:Ob)(g:Bool):(KM n x o g).m<=n+1:=by
 have h:=RO x o g n;unfold KM Oo;split;.omega
 .rename_i hd;rw[if_neg hd]at h;exact h
theorem Re{x:Int}(h0:0<=x)(h1:x<=1000001):(Lit.int .i64 x).wf=true:=by have a:IntKind.i64.min<=0:=Zb;have b:(1000001:Int)<=IntKind.i64.max:=Zb;simp only[Lit.wf,Al,decide_eq_true_eq];omega
theorem mL{B:Bk}{v:Wr}(hok:Nv B v):Ef (BV B v):=by unfold BV BN;cases h:Nq B.os v.kind v.name B.on with
 |none=>exact(show Ef nB from⟨Zb,Zb,Zb,Zb,λi hi=>absurd hi (Aj _),Re Zb Zb⟩)
 |some i=>exact hok.fit.os i (Oh h).1
theorem Xr{B:Bk}{v:Wr}(hok:Nv B v):Ef (Cr B v):=by
 have hf:=mL hok;have hl:=(Wu hok).1;have wf:=hok.wf;have hv:(Lit.int .i64 (B.now+1)).wf=true:=Re (by have:=hok.now0;omega) (by have:=hok.now1;omega);unfold Cr MY;split;.exact⟨wf.k,wf.n,wf.t,by dsimp only;split<;>decide,λi _=>wf.h,hv⟩
 .split;.exact⟨hf.k,hf.n,wf.t,hf.h,hf.s,hv⟩
  .split;.exact⟨hf.k,hf.n,hf.t,hf.h,hf.s,hv⟩
   .split
    .refine⟨hf.k,hf.n,hf.t,by dsimp only;omega,λi hi=>?_,hv⟩;dsimp only at hi⊢;unfold Qt;have hr:=(MK (BV B v).hs v.hold (BV B v).hn).1;split;.exact hf.s i Za
     .split;.exact wf.h
      .exact hf.s (i-1) Za
    .refine⟨hf.k,hf.n,hf.t,by dsimp only;omega,λi hi=>?_,hv⟩;dsimp only at hi⊢;unfold Nc;split;.exact hf.s i Za
     .exact hf.s (i+1) Za
theorem Tu{B:Bk}{v:Wr}(hok:Nv B v):BL (LX B v)/\((LX B v).on:Int)<=1048576/\((LX B v).hn:Int)<=1048576:=by
 have h1:=Tf B.on B.os (Cr B v) (CX B v);have h2:=hok.on;have h3:=hok.hn;have e1:(LX B v).on<=101:=by show(KM B.on B.os (Cr B v) (CX B v)).m<=101;omega
 have e2:(LX B v).hn<=201:=by show B.hn-Mk B+1<=201;omega
 refine⟨⟨Za,Za,hok.fit.t,λi _=>Ry (P:=Ef) (Xr hok) hok.fit.os i,λi _=>?_,hok.fit.ts⟩,Za,Za⟩;show Ef (sN B (Ec B v) i).ob;unfold sN;split;.exact hok.fit.hs _ Za
 .exact Xr hok
end Go.Proofs.Ytnnjcenacidceaa
namespace Go.Proofs.Ytnnjcenacidceaa
open Go.RowKit Go.Maps Go.Proofs.Try
end Go.Proofs.Ytnnjcenacidceaa
