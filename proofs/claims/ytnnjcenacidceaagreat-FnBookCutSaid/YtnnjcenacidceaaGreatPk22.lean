import Derived.Test.YtnnjcenacidceaaGreatPk20
import Derived.Test.YtnnjcenacidceaaGreatPk21
import Derived.Test.YtnnjcenacidceaaGreatPk19
set_option maxRecDepth 100000
set_option maxHeartbeats 8000000
namespace Go.Proofs.YtnnjcenacidceaaGreat
open Go.RowKit Go.Maps Go.Proofs.Tryz
theorem Wn{B:Bk}{v:Wr}(hok:Nj B v):(BY B v).hn<=5/\MU (BY B v).hn (BY B v).hs/\(B4 B.os v.kind v.name B.on=false->BY B v=kW):=by unfold BY Cu B4;cases h:Nq B.os v.kind v.name B.on with
 |none=>exact⟨At _,λi j _ h2=>absurd h2 (Ai _),λ_=>rfl⟩
 |some i=>have h1:=hok.hold i (OU h).1;exact⟨h1.1,h1.2,λh2=>by simp at h2⟩
theorem MO{B:Bk}{v:Wr}{w:World}{c:Int}(hc:Ed B v=c)(h0:¬c=0){e:Ending}{w':World}(h:e=.returned (.tuple #[.agg #[.i 0,.bool false,.s ⟨#[]⟩,.s ⟨#[]⟩,.i 0,.i 0,.s ⟨#[]⟩,.bool false,.l none 0 0],.i c])/\Below w.1.size w w'):QI B v w e w':=by
 have hw:BN B v=c:=by unfold BN;rw[hc,if_neg h0]
 exact⟨h.2,AB ⟨by rw[hw];exact h0,by rw[hw];exact h.1⟩⟩
theorem jL{v:Wr}(h:LF v=true)(h1:v.op=1):v.seen=0:=by unfold LF at h;rw[Am]at h;have h2:=h.2;unfold LR at h2;rw[if_pos h1]at h2;exact of_decide_eq_true h2
theorem XO(n:Nat):(!(!true||decide (0<n)))=((n:Int)==0):=by cases n with
 |zero=>rfl
 |succ k=>simp;omega
theorem TR (B:Bk)(v:Wr)(a1 a2 a3:OA)(c1 c2 c3:Nat)(w:World)(hok:Nj B v)(hc:BS w 0 w.1.size a1 B.on B.os):Calls prog 91 #[.agg (vB B a1 a2 a3 c1 c2 c3),.agg (vW v)] w λe w'=>QI B v w e w':=by obtain⟨hl,hasc,hno⟩:=Wn hok;have hol:((BY B v).hn:Int)<=5:=Za;cases ht:B4 B.os v.kind v.name B.on with
 |false=>
  by_cases h1:v.op=1
  .have hw:=hno ht;have hs:=jL hok.wr h1;have he:(BY B v).ending=false:=by rw[hw];rfl
   have hoc:=qH ht hw h1 hs;by_cases h100:100<=B.on
   .rw[if_pos h100]at hoc;exact(pG B v a1 a2 a3 c1 c2 c3 (BY B v) w hok hc rfl hol ht h1 hs he h100).mono (λ_ _ h=>MO hoc Zb h)
   .rw[if_neg h100]at hoc;by_cases hh0:v.hold=⟨#[]⟩
    .have hx:Cv B v=⟨v.kind,v.name,B.now+1,B.now+1,v.text,false,0,λ_=>v.hold⟩:=by unfold Cv M8;rw[if_pos h1,if_pos (by simp[PP,hh0])]
     have hg:C7 B v=false:=by unfold C7;rw[hx];simp[C6]
     exact pQ B v a1 a2 a3 c1 c2 c3 (BY B v) w hok hc rfl hol ht h1 hoc hs he hh0 h100 (by show _=Value.agg #[.i (B.now+1),.bool (C7 B v),.s (Cv B v).kind,.s (Cv B v).name,.i (Cv B v).ver,.i (Cv B v).born,.s (Cv B v).text,.bool (Cv B v).ending,.l _ (Cv B v).hn _];rw[hg,hx]) (λW A=>by show AD W 0 _ A (Cv B v).hn (Cv B v).hs=_;rw[hx])
    .have hx:Cv B v=⟨v.kind,v.name,B.now+1,B.now+1,v.text,false,1,λ_=>v.hold⟩:=by unfold Cv M8;rw[if_pos h1,if_neg (by simp[PP,hh0])]
     have hg:C7 B v=false:=by unfold C7;rw[hx];simp[C6]
     exact qO B v a1 a2 a3 c1 c2 c3 (BY B v) w hok hc rfl hol ht h1 hoc hs he hh0 h100 (λ_ _=>by show _=Value.agg #[.i (B.now+1),.bool (C7 B v),.s (Cv B v).kind,.s (Cv B v).name,.i (Cv B v).ver,.i (Cv B v).born,.s (Cv B v).text,.bool (Cv B v).ending,.l _ (Cv B v).hn _];rw[hg,hx]) (λW A=>by show AD W 0 _ A (Cv B v).hn (Cv B v).hs=_;rw[hx])
  .exact(Y5 B v a1 a2 a3 c1 c2 c3 (BY B v) w hok hc rfl hol ht h1).mono (λ_ _ h=>MO (XV ht h1).1 Zb h)
 |true=>
  by_cases h1:v.op=1;.exact(Wk B v a1 a2 a3 c1 c2 c3 (BY B v) w hok hc rfl hol ht h1).mono (λ_ _ h=>MO (i4 ht h1).1 Zb h)
  by_cases hst:¬v.seen=0/\¬v.seen=(BY B v).ver;.exact(xC B v a1 a2 a3 c1 c2 c3 (BY B v) w hok hc rfl hol ht h1 hst.1 hst.2).mono (λ_ _ h=>MO (bD ht h1 hst).1 Zb h)
  have hsv:v.seen=0\/(¬v.seen=0/\v.seen=(BY B v).ver):=by
   by_cases h:v.seen=0;.exact AB h
   .exact AE ⟨h,Classical.byContradiction (λq=>hst ⟨h,q⟩)⟩
  by_cases hend:(BY B v).ending=true/\¬v.op=5;.exact(wZ B v a1 a2 a3 c1 c2 c3 (BY B v) w hok hc rfl hol ht h1 hend.2 hsv hend.1).mono (λ_ _ h=>MO (qF ht h1 hst hend.1 hend.2).1 Zb h)
  have hoc:=tO ht h1 hst hend;have he:¬v.op=5->(BY B v).ending=false:=λh5=>by cases h:(BY B v).ending with
   |false=>rfl
   |true=>exact absurd ⟨h,h5⟩ hend
  rcases eP hok.wr with h|h|h|h|h;.exact absurd h h1
  .have he:=he Za;rw[if_neg Za,if_neg Za]at hoc;have hx:Cv B v=⟨(BY B v).kind,(BY B v).name,B.now+1,(BY B v).born,v.text,false,(BY B v).hn,(BY B v).hs⟩:=by unfold Cv M8;rw[if_neg h1,if_pos h,he]
   have hg:C7 B v=false:=by unfold C7;rw[hx];simp[C6]
   exact tC B v a1 a2 a3 c1 c2 c3 (BY B v) w hok hc rfl hol ht h hoc hsv he (λ_ _=>by show _=Value.agg #[.i (B.now+1),.bool (C7 B v),.s (Cv B v).kind,.s (Cv B v).name,.i (Cv B v).ver,.i (Cv B v).born,.s (Cv B v).text,.bool (Cv B v).ending,.l _ (Cv B v).hn _];rw[hg,hx]) (λW A=>by show AD W 0 _ A (Cv B v).hn (Cv B v).hs=_;rw[hx])
  .have he:=he Za;rw[if_neg Za,if_neg Za]at hoc;have hx:Cv B v=⟨(BY B v).kind,(BY B v).name,B.now+1,(BY B v).born,(BY B v).text,true,(BY B v).hn,(BY B v).hs⟩:=by unfold Cv M8;rw[if_neg h1,if_neg Za,if_pos h]
   have hg:C7 B v=(((BY B v).hn:Int)==0):=by unfold C7;rw[hx];exact XO _
   exact tS B v a1 a2 a3 c1 c2 c3 (BY B v) w hok hc rfl hol ht h hoc hsv he (λ_ _=>by show _=Value.agg #[.i (B.now+1),.bool (C7 B v),.s (Cv B v).kind,.s (Cv B v).name,.i (Cv B v).ver,.i (Cv B v).born,.s (Cv B v).text,.bool (Cv B v).ending,.l _ (Cv B v).hn _];rw[hg,hx]) (λW A=>by show AD W 0 _ A (Cv B v).hn (Cv B v).hs=_;rw[hx])
  .have he:=he Za;rw[if_pos h]at hoc;cases hh:Nl (BY B v).hn (BY B v).hs v.hold with
   |true=>rw[hh,if_pos rfl]at hoc;exact(pC B v a1 a2 a3 c1 c2 c3 (BY B v) w hok hc rfl hol ht h hsv he hh).mono (λ_ _ h=>MO hoc Zb h)
   |false=>
    rw[hh,if_neg Zb]at hoc;by_cases h5:5<=(BY B v).hn;.rw[if_pos h5]at hoc;exact(oQ B v a1 a2 a3 c1 c2 c3 (BY B v) w hok hc rfl hol ht h hsv he hh Za).mono (λ_ _ h=>MO hoc Zb h)
    .rw[if_neg h5]at hoc;have hx:Cv B v=⟨(BY B v).kind,(BY B v).name,B.now+1,(BY B v).born,(BY B v).text,false,(BY B v).hn+1,QM (BY B v).hs (Ll (BY B v).hs v.hold (BY B v).hn) v.hold⟩:=by unfold Cv M8;rw[if_neg h1,if_neg Za,if_neg Za,if_pos h,he]
     have hg:C7 B v=false:=by unfold C7;rw[hx];simp[C6]
     exact uA B v a1 a2 a3 c1 c2 c3 (BY B v) w hok hc rfl hol ht h hsv he hh Za hoc (λ_ _=>by show _=Value.agg #[.i (B.now+1),.bool (C7 B v),.s (Cv B v).kind,.s (Cv B v).name,.i (Cv B v).ver,.i (Cv B v).born,.s (Cv B v).text,.bool (Cv B v).ending,.l _ (Cv B v).hn _];rw[hg,hx]) (λW A=>by show AD W 0 _ A (Cv B v).hn (Cv B v).hs=_;rw[hx])
  .rw[if_neg Za,if_pos h]at hoc;cases hh:Nl (BY B v).hn (BY B v).hs v.hold with
   |false=>rw[hh,if_neg Zb]at hoc;exact(pA B v a1 a2 a3 c1 c2 c3 (BY B v) w hok hc rfl hol ht h hsv hh).mono (λ_ _ h=>MO hoc Zb h)
   |true=>
    rw[hh,if_pos rfl]at hoc;have hx0:Cv B v=⟨(BY B v).kind,(BY B v).name,B.now+1,(BY B v).born,(BY B v).text,(BY B v).ending,(BY B v).hn-1,Ns (BY B v).hs (Ll (BY B v).hs v.hold (BY B v).hn)⟩:=by unfold Cv M8;rw[if_neg h1,if_neg Za,if_neg Za,if_neg Za]
    cases hE:(BY B v).ending with
    |false=>
     have hx:=hx0;rw[hE]at hx;have hg:C7 B v=false:=by unfold C7;rw[hx];simp[C6]
     exact oR B v a1 a2 a3 c1 c2 c3 (BY B v) w hok hc rfl hol ht h hsv hE hh hasc _ rfl hoc (λ_ _=>by show _=Value.agg #[.i (B.now+1),.bool (C7 B v),.s (Cv B v).kind,.s (Cv B v).name,.i (Cv B v).ver,.i (Cv B v).born,.s (Cv B v).text,.bool (Cv B v).ending,.l _ (Cv B v).hn _];rw[hg,hx]) (λW A=>by show AD W 0 _ A (Cv B v).hn (Cv B v).hs=_;rw[hx])
    |true=>
     have hx:=hx0;rw[hE]at hx;have hg:C7 B v=((((BY B v).hn-1:Nat):Int)==0):=by unfold C7;rw[hx];exact XO _
     exact pE B v a1 a2 a3 c1 c2 c3 (BY B v) w hok hc rfl hol ht h hsv hE hh hasc _ rfl hoc (λ_ _=>by show _=Value.agg #[.i (B.now+1),.bool (C7 B v),.s (Cv B v).kind,.s (Cv B v).name,.i (Cv B v).ver,.i (Cv B v).born,.s (Cv B v).text,.bool (Cv B v).ending,.l _ (Cv B v).hn _];rw[hg,hx]) (λW A=>by show AD W 0 _ A (Cv B v).hn (Cv B v).hs=_;rw[hx])
end Go.Proofs.YtnnjcenacidceaaGreat
namespace Go.Proofs.YtnnjcenacidceaaGreat
open Go.RowKit Go.Proofs.Tryz
structure wV (W:World)(a b c:Bool)(va vb vc:Value)(RA RB RC:Value->World->Prop)(X:World):Prop where
 ra:a=true->c=false->RA va X
 rb:b=true->c=false->RB vb X
 sep:a=true->b=true->c=false->∀g h n k m,va=.l (some ⟨g,0,none⟩) n k->0<k->vb=.l (some ⟨h,0,none⟩) m m->g≠h
 rc:c=true->RC vc X
def xJ (n a b c:Nat)(ops:Array Oper)(mk:(Nat->Value)->Array Value)(W:World)(PV:Nat->Value->Prop)(RA RB RC:Value->World->Prop)(Fin:Act->World->Prop)(l:Array Bool)(ac:Act)(X:World):Prop:=l.size=n+1/\(∀i j,BM ops i j->l.getD i false=true->l.getD j false=true)/\(l.getD n false=true->(∀i,i<n+1->l.getD i false=true)/\Fin ac X)/\(l.getD n false=false->∃t:Nat->Value,ac=⟨mk t,[]⟩/\Below W.1.size W X/\(∀i,i<n->l.getD i false=true->PV i (t i))/\wV W (l.getD a false) (l.getD b false) (l.getD c false) (t a) (t b) (t c) RA RB RC X)
theorem iU{P:Program}{id:Nat}{ops:Array Oper}{Q:Exit->Act->World->Prop}{a0:Act}{W:World}(hm:P.follows .mixedOrders=true)(n a b c:Nat)(hlt:(a<b/\b<c)/\c<n)(wca:BM ops c a)(wcb:BM ops c b)(mk:(Nat->Value)->Array Value)(t0:Nat->Value)(PV:Nat->Value->Prop)(RA RB RC:Value->World->Prop)(Fin:Act->World->Prop)(hn:ops.size=n+1)(hord:((List.range ops.size).all λi=>match ops[i]? with|some o=>o.after.all (λe=>decide (e.on<i))|none=>true)=true)(hanc:((List.range n).all λj=>(List.range (n+1)).any λk=>match ops[k]? with|some o=>decide (j<k)&&o.after.any (λe=>Region.binds .any e&&e.on==j)|none=>false)=true)(gA:∀v X Y,RA v X->Below X.1.size X Y->RA v Y)(gB:∀v X Y,RB v X->Below X.1.size X Y->RB v Y)(gC:∀v X Y,RC v X->Below X.1.size X Y->RC v Y)(bA:∀g n k X,RA (.l (some ⟨g,0,none⟩) n k) X->0<k->g<X.1.size)(bB:∀h m X,RB (.l (some ⟨h,0,none⟩) m m) X->h<X.1.size)(h0:a0=⟨mk t0,[]⟩)(sp:∀i,i<n->i≠a->i≠b->i≠c->∀(t:Nat->Value) X K,Below W.1.size W X->(∀j,BM ops i j->PV j (t j))->(∀v Y,PV i v->Below X.1.size X Y->K ⟨mk (AA t i v),[]⟩ Y)->wpOp P ops Q i K ⟨mk t,[]⟩ X)(sa:∀(t:Nat->Value) X K,Below W.1.size W X->(∀j,BM ops a j->PV j (t j))->(∀v Y,PV a v->RA v Y->(∀g n k,v=.l (some ⟨g,0,none⟩) n k->0<k->X.1.size<=g)->Below X.1.size X Y->K ⟨mk (AA t a v),[]⟩ Y)->wpOp P ops Q a K ⟨mk t,[]⟩ X)(sb:∀(t:Nat->Value) X K,Below W.1.size W X->(∀j,BM ops b j->PV j (t j))->(∀v Y,PV b v->RB v Y->(∀h m,v=.l (some ⟨h,0,none⟩) m m->X.1.size<=h)->Below X.1.size X Y->K ⟨mk (AA t b v),[]⟩ Y)->wpOp P ops Q b K ⟨mk t,[]⟩ X)(sc:∀(t:Nat->Value) X K,Below W.1.size W X->(∀j,BM ops c j->PV j (t j))->RA (t a) X->RB (t b) X->(∀g h n k m,t a=.l (some ⟨g,0,none⟩) n k->0<k->t b=.l (some ⟨h,0,none⟩) m m->g≠h)->(∀v Y,PV c v->RC v Y->Below W.1.size X Y->K ⟨mk (AA t c v),[]⟩ Y)->wpOp P ops Q c K ⟨mk t,[]⟩ X)(sl:∀(t:Nat->Value) X K,Below W.1.size W X->(∀j,j<n->PV j (t j))->RC (t c) X->(∀ac Y,Fin ac Y->K ac Y)->wpOp P ops Q n K ⟨mk t,[]⟩ X)(hfin:∀ac X,Fin ac X->Q .normal ac X):(Code.region id ops true).wp P Q a0 W:=by
 have hdep:∀i j,i<n+1->BM ops i j->j<i:=by rintro i j hi ⟨o,ho,e,he,_,rfl⟩;have h1:=Be.1 hord i (BC.2 Za);rw[ho]at h1;exact of_decide_eq_true (Bc.1 h1 e he)
 refine CC hm (xJ n a b c ops mk W PV RA RB RC Fin) ?_ ?_ ?_ ?_
 .have hz:∀i,(Array.replicate ops.size false).getD i false=false:=λi=>by simp[Array.getD]
  refine⟨by simp[hn],λi j _ h=>?_,λh=>?_,λ_=>⟨t0,h0,(Aq _ _).drew,λi _ h=>?_,?_⟩⟩;.rw[hz]at h;cases h
  .rw[hz]at h;cases h
  .rw[hz]at h;cases h
  .simp only[hz];exact⟨λh=>Py,λh=>Py,λh=>Py,λh=>Py⟩
 .rintro l ac X ⟨hs,_⟩;rw[hs,hn]
 .rintro l ac X ⟨hs,_,h6,_⟩hr;have AL:=KU hord (by rw[hs,hn]) hr;exact hfin ac X (h6 (AL n Za)).2
 .rintro l ac X i ⟨hs,hcl,h6,hg⟩hr;obtain⟨hu,o,ho,hall⟩:=mem_ready.1 hr;have di:∀j,BM ops i j->l.getD j false=true:=by
   rintro j ⟨o',ho',e,he,hb,rfl⟩;rw[ho]at ho';obtain rfl:o=o':=by simpa using ho'
   exact hall e he hb
  have hi7:i<n+1:=by
   rcases Aw i (n+1)with h|h;.exact h
   .rw[Bt Za]at ho;cases ho
  have hui:l.getD i false=false:=by have:l.getD i true=false:=hu;simpa[Array.getD,hs,hi7]using this
  have l6:l.getD n false=false:=by cases h:l.getD n false with
   |false=>rfl
   |true=>rw[(h6 h).1 i hi7]at hui;cases hui
  obtain⟨t,rfl,hb,gg,S⟩:=hg l6;have kp:∀j,¬j=i->(l.setIfInBounds i true).getD j false=l.getD j false:=λj hj=>by rw[Cd Za,if_neg hj]
  have ki:(l.setIfInBounds i true).getD i false=true:=by rw[Cd Za,if_pos rfl]
  have hs':(l.setIfInBounds i true).size=n+1:=by simp[hs]
  have ku:∀j,l.getD j false=true->(l.setIfInBounds i true).getD j false=true:=λj h=>by
   by_cases e:j=i;.subst e;exact ki
   .rw[kp j e];exact h
  have hcl':∀p j,BM ops p j->(l.setIfInBounds i true).getD p false=true->(l.setIfInBounds i true).getD j false=true:=λp j hj h=>by
   by_cases e:p=i;.subst e;exact ku j (di j hj)
   .rw[kp p e]at h;exact ku j (hcl p j hj h)
  have dpv:∀j,BM ops i j->PV j (t j):=λj hj=>gg j (by have:=hdep i j hi7 hj;omega) (di j hj);have notc:l.getD a false=false\/l.getD b false=false->l.getD c false=false:=λh=>by cases hc:l.getD c false with
   |false=>rfl
   |true=>
    have h1:=hcl c a wca hc;have h2:=hcl c b wcb hc;rcases h with h|h;.rw[h]at h1;cases h1
    .rw[h]at h2;cases h2
  by_cases hin:i=n
  .subst hin;have al:=λj hj=>Ui (f:=λj=>l.getD j false=true) hanc hcl di i j Za hj;clear hr hu ho h6 hg;refine sl t X _ hb (λj hj=>gg j hj (al j hj)) (S.rc (al c hlt.2)) (λac Y hY=>⟨hs',hcl',λ_=>⟨λj hj=>?_,hY⟩,λh=>?_⟩)
   .by_cases e:j=i;.subst e;exact ki
    .exact ku j (al j Za)
   .rw[ki]at h;cases h
  have hno:(l.setIfInBounds i true).getD n false=false:=by rw[kp n (λe=>hin e.symm)];exact l6
  have pv':∀v,PV i v->∀j,j<n->(l.setIfInBounds i true).getD j false=true->PV j (AA t i v j):=λv hv j j1 h=>by
   by_cases e:j=i;.subst e;rw[BA];exact hv
   .rw[kp j e]at h;rw[BI e];exact gg j j1 h
  have noN:∀{p:Prop},(l.setIfInBounds i true).getD n false=true->p:=λh=>by rw[hno]at h;cases h
  clear hr hu ho h6 hg;by_cases ea:i=a
  .subst ea;have hc0:=notc (AB hui);refine sa t X _ hb dpv (λv Y hpv hra hnew hY=>⟨hs',hcl',λh=>noN h,λ_=>⟨AA t i v,rfl,hb.trans (hY.mono hb.size),pv' v hpv,?_⟩⟩);rw[ki,kp b Za,kp c Za,BA,BI (show¬b=i by omega),BI (show¬c=i by omega)];exact⟨λ_ _=>hra,λh1 h2=>gB _ _ _ (S.rb h1 h2) hY,λ_ h1 h2 g h n k m e1 hk e2=>by have h3:=hnew g n k e1 hk;have h4:=S.rb h1 h2;rw[e2]at h4;have:=bB h m X h4;omega,λh=>(by rw[hc0]at h;cases h)⟩
  by_cases eb:i=b
  .subst eb;have hc0:=notc (AE hui);refine sb t X _ hb dpv (λv Y hpv hrb hnew hY=>⟨hs',hcl',λh=>noN h,λ_=>⟨AA t i v,rfl,hb.trans (hY.mono hb.size),pv' v hpv,?_⟩⟩);rw[ki,kp a Za,kp c Za,BA,BI (show¬a=i by omega),BI (show¬c=i by omega)];exact⟨λh1 h2=>gA _ _ _ (S.ra h1 h2) hY,λ_ _=>hrb,λh1 _ h2 g h n k m e1 hk e2=>by have h3:=hnew h m e2;have h4:=S.ra h1 h2;rw[e1]at h4;have:=bA g n k X h4 hk;omega,λh=>(by rw[hc0]at h;cases h)⟩
  by_cases ec:i=c
  .subst ec;have la:=di a wca;have lb:=di b wcb;refine sc t X _ hb dpv (S.ra la hui) (S.rb lb hui) (λg h n k m e1 hk e2=>S.sep la lb hui g h n k m e1 hk e2) (λv Y hpv hrc hY=>⟨hs',hcl',λh=>noN h,λ_=>⟨AA t i v,rfl,hb.trans hY,pv' v hpv,?_⟩⟩);rw[ki,kp a Za,kp b Za,BA,BI (show¬a=i by omega),BI (show¬b=i by omega)];exact⟨λ_ h=>Py,λ_ h=>Py,λ_ _ h=>Py,λ_=>hrc⟩
  .refine sp i Za ea eb ec t X _ hb dpv (λv Y hpv hY=>⟨hs',hcl',λh=>noN h,λ_=>⟨AA t i v,rfl,hb.trans (hY.mono hb.size),pv' v hpv,?_⟩⟩);rw[kp a (λe=>ea e.symm),kp b (λe=>eb e.symm),kp c (λe=>ec e.symm),BI (λe=>ea e.symm),BI (λe=>eb e.symm),BI (λe=>ec e.symm)];exact⟨λh1 h2=>gA _ _ _ (S.ra h1 h2) hY,λh1 h2=>gB _ _ _ (S.rb h1 h2) hY,S.sep,λh1=>gC _ _ _ (S.rc h1) hY⟩
end Go.Proofs.YtnnjcenacidceaaGreat
namespace Go.Proofs.YtnnjcenacidceaaGreat
open Go.RowKit Go.Maps Go.Proofs.Tryz
def tT (K Xb:Nat)(ad:OA)(n cap:Nat)(c:Ch)(adc:OA)(capc:Nat)(i:Nat)(v:Value):Prop:=match i with
 |0=>∃b,v=.l (some ⟨b,0,none⟩) 0 0
 |1=>v=.p K 3
 |2=>v=.l ad n cap
 |4=>v=.agg #[.i c.ver,.bool c.gone,.s c.ob.kind,.s c.ob.name,.i c.ob.ver,.i c.ob.born,.s c.ob.text,.bool c.ob.ending,.l adc c.ob.hn capc]
 |7=>v=.p Xb 3
 |_=>True
theorem cB{p0 p1 p3 p4 p6 p7 p8 p9 D9 Ea DZ Dl Di Dg Dh De Db Dk Da Df Dc DH Du Ds DA Dw DG DD DE DF DI DJ DU Ev EF EN Eu ED EB EE EC Es Et DC D2 D1 DO DN D7 EK EL EH EJ EI EA Ez D0 FP FJ FO FN FK FH FL FI FM:Value}{mk:(Nat->Value)->Array Value}(t0:Nat->Value)(K Cb Xb:Nat)(ad:OA)(n cap:Nat)(c:Ch)(adc:OA)(capc:Nat)(cc:Nat->Value)(lo hi:Nat)(W:World)(hn:n<=200)(hhi:hi<=W.1.size)(hs:BL W lo hi ad (n*9) cc)(hKz:K<W.1.size)(h3:W.cell? ⟨K,3,none⟩=some (.slice ad n cap))(hch:AN W Cb 9 (AW [.i c.ver,.bool c.gone,.s c.ob.kind,.s c.ob.name,.i c.ob.ver,.i c.ob.born,.s c.ob.text,.bool c.ob.ending,.l adc c.ob.hn capc]))(hX:Xb<W.1.size)(u3:Value)(hx3:W.cell? ⟨Xb,3,none⟩=some u3)(hf:W.frozen? ⟨Xb,3,none⟩=false)(hmk:mk=λt=>#[p0,p1,.p K 0,p3,p4,.p Cb 0,p6,p7,p8,p9,.p Xb 0,D9,Ea,DZ,Dl,Di,Dg,Dh,De,Db,Dk,Da,Df,Dc,DH,Du,Ds,DA,Dw,DG,DD,DE,DF,DI,DJ,DU,Ev,EF,EN,Eu,ED,EB,EE,EC,Es,Et,DC,D2,D1,DO,DN,t 0,t 1,t 2,t 3,t 4,t 5,t 6,t 7,D7,EK,EL,EH,EJ,EI,EA,Ez,D0,FP,FJ,FO,FN,FK,FH,FL,FI,FM])(Q:Exit->Act->World->Prop)(hQ:∀(t:Nat->Value)(v3:Value) X,Ra W (n+1) 9 (BT cc (n*9) (AW [.i c.ver,.bool c.gone,.s c.ob.kind,.s c.ob.name,.i c.ob.ver,.i c.ob.born,.s c.ob.text,.bool c.ob.ending,.l adc c.ob.hn capc])) v3 X/\Below W.1.size W X->Q .normal ⟨mk t,[]⟩ (X.setCell ⟨Xb,3,none⟩ v3)):Code.wp prog (rg Tryz.f75 13) Q ⟨mk t0,[]⟩ W:=by
 refine iU Ze 8 3 5 6 Zb (AZ rfl) (AZ rfl) mk t0 (tT K Xb ad n cap c adc capc)
  (Ra W n 9 cc) (n7 W 9 (AW [.i c.ver,.bool c.gone,.s c.ob.kind,.s c.ob.name,.i c.ob.ver,.i c.ob.born,.s c.ob.text,.bool c.ob.ending,.l adc c.ob.hn capc])) (Ra W (n+1) 9 (BT cc (n*9) (AW [.i c.ver,.bool c.gone,.s c.ob.kind,.s c.ob.name,.i c.ob.ver,.i c.ob.born,.s c.ob.text,.bool c.ob.ending,.l adc c.ob.hn capc]))) (λac Y=>∃(t:Nat->Value)(v3:Value)(X:World),ac=⟨mk t,[]⟩/\Y=X.setCell ⟨Xb,3,none⟩ v3/\Ra W (n+1) 9 (BT cc (n*9) (AW [.i c.ver,.bool c.gone,.s c.ob.kind,.s c.ob.name,.i c.ob.ver,.i c.ob.born,.s c.ob.text,.bool c.ob.ending,.l adc c.ob.hn capc])) v3 X/\Below W.1.size W X) Ze Ze Ze (λ_ _ _ h hb=>h.grow hb) (λ_ _ _ h hb=>h.grow hb) (λ_ _ _ h hb=>h.grow hb) (λ_ _ _ _ h hk=>h.lt hk) (λ_ _ _ h=>h.lt) rfl ?_ ?_ ?_ ?_ ?_ ?_;all_goals subst hmk
 .intro i hi1 g3 g5 g6 t X KK hb hg hK;rcases(show i=0\/i=1\/i=2\/i=4\/i=7 by omega)with rfl|rfl|rfl|rfl|rfl;.have h:=hK (.l (some ⟨X.1.size,0,none⟩) 0 0) (X.alloc (.cells #[] 53)) ⟨_,rfl⟩ ET;refine Ah rfl rfl ?_;clear hK hg;go_simp;simpa[AA]using h
  .exact sg
  .have ea:t 1=_:=hg 1 (AZ rfl);have l0:=(hb.cell (p:=⟨K,3,none⟩) hKz).trans h3;have zl:=Ad hKz hb.size;exact sg
  .have l0:=(hb.cell (p:=⟨Cb,0,none⟩) hch.lt).trans (hch.cell 0 Zb);have l1:=(hb.cell (p:=⟨Cb,1,none⟩) hch.lt).trans (hch.cell 1 Zb);have l2:=(hb.cell (p:=⟨Cb,2,none⟩) hch.lt).trans (hch.cell 2 Zb);have l3:=(hb.cell (p:=⟨Cb,3,none⟩) hch.lt).trans (hch.cell 3 Zb);have l4:=(hb.cell (p:=⟨Cb,4,none⟩) hch.lt).trans (hch.cell 4 Zb);have l5:=(hb.cell (p:=⟨Cb,5,none⟩) hch.lt).trans (hch.cell 5 Zb);have l6:=(hb.cell (p:=⟨Cb,6,none⟩) hch.lt).trans (hch.cell 6 Zb);have l7:=(hb.cell (p:=⟨Cb,7,none⟩) hch.lt).trans (hch.cell 7 Zb);have l8:=(hb.cell (p:=⟨Cb,8,none⟩) hch.lt).trans (hch.cell 8 Zb);simp only[AW,Aa,Ab]at l0 l1 l2 l3 l4 l5 l6 l7 l8;have zl:=Ad hch.lt hb.size;exact sg
  .exact sg
 .intro t X KK hb hg hK;obtain⟨b0,e0⟩:∃b,t 0=.l (some ⟨b,0,none⟩) 0 0:=hg 0 (AZ rfl);have e2:t 2=_:=hg 2 (AZ rfl);obtain⟨v,Y,hrun,hrw,hnew,hbY⟩:=Rk (P:=prog) W X hb 24 24 53 9 112 (.agg #[.i 0,.bool false,.s ByteArray.empty,.s ByteArray.empty,.i 0,.i 0,.s ByteArray.empty,.bool false,.l none 0 0]) underlying24 KZ Za rfl lo hi b0 ad n cap cc (hs.belowR hb hhi) Za Za;exact CL rfl rfl (.tmp 51) (.tmp 53) 24 24 rfl (by exact e0) (by exact e2) hrun (hK v Y trivial hrw hnew hbY)
 .intro t X KK hb hg hK;have e4:t 4=_:=hg 4 (AZ rfl);have h:=hK (.l (some ⟨X.1.size,0,none⟩) 1 1) (X.alloc (.cells #[.i c.ver,.bool c.gone,.s c.ob.kind,.s c.ob.name,.i c.ob.ver,.i c.ob.born,.s c.ob.text,.bool c.ob.ending,.l adc c.ob.hn capc] 53)) trivial ⟨X.1.size,rfl,hb.size,Zc,⟨λj hj=>by have hr:=AN.new (w:=X) (l:=[.i c.ver,.bool c.gone,.s c.ob.kind,.s c.ob.name,.i c.ob.ver,.i c.ob.born,.s c.ob.text,.bool c.ob.ending,.l adc c.ob.hn capc]) (t:=53) Ci;exact⟨X.1.size,0,rfl,AG _,BE _,by rw[Bd];exact hr.cell j (by simpa using hj)⟩,λj hj=>by rcases(show j=0\/j=1\/j=2\/j=3\/j=4\/j=5\/j=6\/j=7\/j=8 by omega)with rfl|rfl|rfl|rfl|rfl|rfl|rfl|rfl|rfl<;>rfl⟩⟩ (λh m e=>by cases e;exact AG _) ET;refine Ah rfl rfl ?_;clear hK hg;simp only[e4];go_simp;simpa[AA,e4]using h
 .intro t X KK hb hg ra rb _ hK;obtain⟨b8,e8,_,_,s8⟩:=rb;obtain⟨v,Y,hrun,hrw,hbY⟩:=Pn (P:=prog) W X hb 24 24 53 9 112 (.agg #[.i 0,.bool false,.s ByteArray.empty,.s ByteArray.empty,.i 0,.i 0,.s ByteArray.empty,.bool false,.l none 0 0]) underlying24 KZ Za rfl n cc hs.one (t 3) ra b8 (b8+1) (some ⟨b8,0,none⟩) 1 1 (AW [.i c.ver,.bool c.gone,.s c.ob.kind,.s c.ob.name,.i c.ob.ver,.i c.ob.born,.s c.ob.text,.bool c.ob.ending,.l adc c.ob.hn capc]) s8 (AE Za) Za Za;exact CL rfl rfl (.tmp 54) (.tmp 56) 24 24 rfl rfl (by exact e8) hrun (hK v Y trivial hrw hbY)
 .intro t X KK hb hg rd hK;have e7:t 7=_:=hg 7 Za;have h:=hK ⟨#[p0,p1,.p K 0,p3,p4,.p Cb 0,p6,p7,p8,p9,.p Xb 0,D9,Ea,DZ,Dl,Di,Dg,Dh,De,Db,Dk,Da,Df,Dc,DH,Du,Ds,DA,Dw,DG,DD,DE,DF,DI,DJ,DU,Ev,EF,EN,Eu,ED,EB,EE,EC,Es,Et,DC,D2,D1,DO,DN,t 0,t 1,t 2,t 3,t 4,t 5,t 6,t 7,D7,EK,EL,EH,EJ,EI,EA,Ez,D0,FP,FJ,FO,FN,FK,FH,FL,FI,FM],[]⟩ (X.setCell ⟨Xb,3,none⟩ (t 6)) ⟨t,t 6,X,rfl,rfl,rd,hb⟩;have l0:=(hb.cell (p:=⟨Xb,3,none⟩) hX).trans hx3;have lf:=(hb.frozen (p:=⟨Xb,3,none⟩) hX).trans hf;have zl:=Ad hX hb.size;obtain⟨ad3,g3,cp3,e6,_,_⟩:=rd;refine Ah rfl rfl ?_;clear hK hg;rw[e6]at h;simp only[e6,e7]at h⊢;go_simp;simpa[e6,e7]using h
 .rintro ac X ⟨t,v3,X0,rfl,rfl,h1,h2⟩;exact hQ t v3 X0 ⟨h1,h2⟩
end Go.Proofs.YtnnjcenacidceaaGreat
namespace Go.Proofs.YtnnjcenacidceaaGreat
open Go.RowKit Go.Maps Go.Proofs.Tryz
theorem BS.grow5{w:World}{lo hi hi':Nat}{ad:OA}{n:Nat}{x:Nat->Ob}(h:BS w lo hi ad n x)(hh:hi<=hi'):BS w lo hi' ad n x:=λi hi2=>by obtain⟨b,off,ah,ch,e1,e2,e3,e4,e5⟩:=h i hi2;refine⟨b,off,ah,ch,e1,e2,Za,e4,λj hj=>?_⟩;obtain⟨b',off',g1,g2,g3,g4⟩:=e5 j hj;exact⟨b',off',g1,g2,Za,g4⟩
theorem R8 (B:Bk)(v:Wr)(a1 a2 a3:OA)(c1 c2 c3:Nat)(w:World)(hok:Nj B v)(hc:BF w 0 w.1.size B a1 a2 a3)(h0:¬BN B v=0)(h4:¬BN B v=4):Calls prog 75 #[.agg (vB B a1 a2 a3 c1 c2 c3),.agg (vW v)] w λe w'=>e=.returned (.agg #[.i (BN B v),.i B.now,.i B.floor,.l a1 B.on c1,.l a2 B.hn c2,.l a3 B.tn c3,.i 0])/\Below w.1.size w w':=by
 have B3:∀o1 o2 o3,Below w.1.size w (((w.alloc o1).alloc o2).alloc o3):=λo1 o2 o3=>(((Aq _ _).alloc AQ _).alloc Zc _).alloc Zd _;have FA:=Aj B3;clear B3;have oB:=Aj hok.wr;have oH:=Aj hok.wf;have MM:=Aj hok;have HC:=Aj hc.o;have uJ:=Aj hc;clear hok hc;have H0:=Aj h0;have H4:=Aj h4;clear h0 h4;go_enter func75,ntmps75;go_wp2_with fail;refine(LB v oH _).mono ?_;rintro e w1 ⟨rfl,hb1⟩;rw[oB.out];have z1:w.1.size+1+1<w1.1.size:=by have:=hb1.size;simp at this;omega
 have SA:=Aj hb1;have MZ:=Aj ((FA _ _ _).trans (hb1.mono Zd));obtain⟨X0,X1,X2,Y1,Y2⟩:=BO hb1;have b0:=X0 0;have b1:=X0 1;have b2:=X0 2;have b3:=X0 3;have b4:=X0 4;have p0:=X1 0;have p1:=X1 1;have p2:=X1 2;have p3:=X1 3;have p4:=X1 4;have p5:=X1 5;have r0:=X2 0;have r1:=X2 1;have r2:=X2 2;have r3:=X2 3;have r4:=X2 4;have r5:=X2 5;have r6:=X2 6;simp only[Ag,Af,Ae]at b0 b1 b2 b3 b4 p0 p1 p2 p3 p4 p5 r0 r1 r2 r3 r4 r5 r6;clear X0 X1 X2;clear hb1;go_wp2_with fail;refine(TR B v a1 a2 a3 c1 c2 c3 w1 MM (HC.below MZ AQ|>.grow5 MZ.size)).mono ?_;rintro e w2 ⟨hb2,hres⟩;rcases hres with⟨_,rfl⟩|⟨hz,_⟩;rotate_left;.exact absurd hz H0
 have hb3:=SA.trans (hb2.mono SA.size);have z2:w.1.size+1+1<w2.1.size:=by have:=hb2.size;omega
 have SG:=Aj (MZ.trans (hb2.mono MZ.size));clear b0 b1 b2 b3 b4 p0 p1 p2 p3 p4 p5 r0 r1 r2 r3 r4 r5 r6 Y1 Y2;obtain⟨X0,X1,X2,Y1,Y2⟩:=BO hb3;have b0:=X0 0;have b1:=X0 1;have b2:=X0 2;have b3:=X0 3;have b4:=X0 4;have p0:=X1 0;have p1:=X1 1;have p2:=X1 2;have p3:=X1 3;have p4:=X1 4;have p5:=X1 5;have r0:=X2 0;have r1:=X2 1;have r2:=X2 2;have r3:=X2 3;have r4:=X2 4;have r5:=X2 5;have r6:=X2 6;simp only[Ag,Af,Ae]at b0 b1 b2 b3 b4 p0 p1 p2 p3 p4 p5 r0 r1 r2 r3 r4 r5 r6;clear X0 X1 X2;clear hb3 hb2 z1 MZ;have zA1:w.1.size<w2.1.size:=Za;have zA2:w.1.size<w2.1.size+1:=Za;have zA3:w.1.size<w2.1.size+1+1:=Za;have zA4:w.1.size<w2.1.size+1+1+1:=Za;have zB1:w.1.size+1<w2.1.size:=Za;have zB2:w.1.size+1<w2.1.size+1:=Za;have zB3:w.1.size+1<w2.1.size+1+1:=Za;have zB4:w.1.size+1<w2.1.size+1+1+1:=Za;have zC1:w.1.size+1+1<w2.1.size:=Za;have zC2:w.1.size+1+1<w2.1.size+1:=Za;have zC3:w.1.size+1+1<w2.1.size+1+1:=Za;have zC4:w.1.size+1+1<w2.1.size+1+1+1:=Za;have MZ:=SG;clear SG;have H0b:(BN B v !=0)=true:=by simpa using H0.out
 have H4b:(BN B v==4)=false:=by simpa using H4.out
 obtain⟨cc,hcc⟩:∃cc,BN B v=cc:=⟨_,rfl⟩;have SY:=Aj hcc;rw[hcc]at H0b H4b⊢;clear hcc;go_wp2;refine bodyPost_ret (v:=.agg #[.i cc,.i B.now,.i B.floor,.l a1 B.on c1,.l a2 B.hn c2,.l a3 B.tn c3,.i 0]) (by simp[results,results75,go_sem,r0,r1,r2,r3,r4,r5,r6,(show w.1.size+1+1<w2.1.size by omega),(show w.1.size+1+1<w2.1.size+1 by omega),NG]) rfl ⟨by rw[SY.out],by repeat(first|with_reducible exact MZ.out|with_reducible refine By ?_ Zi _|with_reducible refine B9 ?_ Zi _|with_reducible refine Cg ?_)⟩
theorem Wl (B:Bk)(v:Wr)(a1 a2 a3:OA)(c1 c2 c3:Nat)(w:World)(hok:Nj B v)(hc:BF w 0 w.1.size B a1 a2 a3)(h4:BN B v=4):Calls prog 75 #[.agg (vB B a1 a2 a3 c1 c2 c3),.agg (vW v)] w λe w'=>e=.returned (.agg #[.i 4,.i B.now,.i B.floor,.l a1 B.on c1,.l a2 B.hn c2,.l a3 B.tn c3,.i (BY B v).ver])/\Below w.1.size w w':=by
 have B3:∀o1 o2 o3,Below w.1.size w (((w.alloc o1).alloc o2).alloc o3):=λo1 o2 o3=>(((Aq _ _).alloc AQ _).alloc Zc _).alloc Zd _;have FA:=Aj B3;clear B3;have oB:=Aj hok.wr;have oH:=Aj hok.wf;have MM:=Aj hok;have HC:=Aj hc.o;have uJ:=Aj hc;clear hok hc;have H4:=Aj h4;clear h4;go_enter func75,ntmps75;go_wp2_with fail;refine(LB v oH _).mono ?_;rintro e w1 ⟨rfl,hb1⟩;rw[oB.out];have z1:w.1.size+1+1<w1.1.size:=by have:=hb1.size;simp at this;omega
 have SA:=Aj hb1;have MZ:=Aj ((FA _ _ _).trans (hb1.mono Zd));obtain⟨X0,X1,X2,Y1,Y2⟩:=BO hb1;have b0:=X0 0;have b1:=X0 1;have b2:=X0 2;have b3:=X0 3;have b4:=X0 4;have p0:=X1 0;have p1:=X1 1;have p2:=X1 2;have p3:=X1 3;have p4:=X1 4;have p5:=X1 5;have r0:=X2 0;have r1:=X2 1;have r2:=X2 2;have r3:=X2 3;have r4:=X2 4;have r5:=X2 5;have r6:=X2 6;simp only[Ag,Af,Ae]at b0 b1 b2 b3 b4 p0 p1 p2 p3 p4 p5 r0 r1 r2 r3 r4 r5 r6;clear X0 X1 X2;clear hb1;go_wp2_with fail;refine(TR B v a1 a2 a3 c1 c2 c3 w1 MM (HC.below MZ AQ|>.grow5 MZ.size)).mono ?_;rintro e w2 ⟨hb2,hres⟩;rcases hres with⟨_,rfl⟩|⟨hz,_⟩;rotate_left;.exact absurd hz (by rw[H4.out];decide)
 have hb3:=SA.trans (hb2.mono SA.size);have z2:w.1.size+1+1<w2.1.size:=by have:=hb2.size;omega
 have SG:=Aj (MZ.trans (hb2.mono MZ.size));clear b0 b1 b2 b3 b4 p0 p1 p2 p3 p4 p5 r0 r1 r2 r3 r4 r5 r6 Y1 Y2;obtain⟨X0,X1,X2,Y1,Y2⟩:=BO hb3;have b0:=X0 0;have b1:=X0 1;have b2:=X0 2;have b3:=X0 3;have b4:=X0 4;have p0:=X1 0;have p1:=X1 1;have p2:=X1 2;have p3:=X1 3;have p4:=X1 4;have p5:=X1 5;have r0:=X2 0;have r1:=X2 1;have r2:=X2 2;have r3:=X2 3;have r4:=X2 4;have r5:=X2 5;have r6:=X2 6;simp only[Ag,Af,Ae]at b0 b1 b2 b3 b4 p0 p1 p2 p3 p4 p5 r0 r1 r2 r3 r4 r5 r6;clear X0 X1 X2;clear hb3 hb2 z1 MZ;have zA1:w.1.size<w2.1.size:=Za;have zA2:w.1.size<w2.1.size+1:=Za;have zA3:w.1.size<w2.1.size+1+1:=Za;have zA4:w.1.size<w2.1.size+1+1+1:=Za;have zB1:w.1.size+1<w2.1.size:=Za;have zB2:w.1.size+1<w2.1.size+1:=Za;have zB3:w.1.size+1<w2.1.size+1+1:=Za;have zB4:w.1.size+1<w2.1.size+1+1+1:=Za;have zC1:w.1.size+1+1<w2.1.size:=Za;have zC2:w.1.size+1+1<w2.1.size+1:=Za;have zC3:w.1.size+1+1<w2.1.size+1+1:=Za;have zC4:w.1.size+1+1<w2.1.size+1+1+1:=Za;have MZ:=SG;clear SG;rw[H4.out];have hon:(B.on:Int)<=100:=by have:=MM.on;omega
 have Wd:=Aj hon;go_wp2_with fail;refine(BP B.now B.floor B.on B.os a1 a2 a3 c1 B.hn c2 B.tn c3 v.kind v.name _ 0 w.1.size Zi ZE MM.out.fit.os (HC.out.below (by repeat(first|with_reducible exact MZ.out|with_reducible refine By ?_ Zi _|with_reducible refine B9 ?_ Zi _|with_reducible refine Cg ?_)) AQ)).mono ?_;rintro e w3 ⟨A,C,rfl,_,_,hb4⟩;have hB4:Below w2.1.size w2 w3:=((Ap _ _).alloc Zc _).trans (hb4.mono Zd);have hd:=AN.new (w:=w2.alloc (.cells #[.i 0,.bool false,.s ⟨#[]⟩,.s ⟨#[]⟩,.i 0,.i 0,.s ⟨#[]⟩,.bool false,.l none 0 0] 53)) (l:=[.i 4,.i B.now,.i B.floor,.l a1 B.on c1,.l a2 B.hn c2,.l a3 B.tn c3,.i 0]) (t:=115) hb4;rw[Av]at hd;have z3:w2.1.size+1<w3.1.size:=by have:=hb4.size;simp at this;omega
 have Z0:=Aj (MZ.trans (hB4.mono MZ.size));have y2:∀i,w3.frozen? ⟨w.1.size+1+1,i,none⟩=false:=λi=>(hB4.frozen (p:=⟨w.1.size+1+1,i,none⟩) zC1).trans (Y2 i);have s0:=(hB4.cell (p:=⟨w.1.size+1+1,0,none⟩) zC1).trans r0;have s1:=(hB4.cell (p:=⟨w.1.size+1+1,1,none⟩) zC1).trans r1;have s2:=(hB4.cell (p:=⟨w.1.size+1+1,2,none⟩) zC1).trans r2;have s3:=(hB4.cell (p:=⟨w.1.size+1+1,3,none⟩) zC1).trans r3;have s4:=(hB4.cell (p:=⟨w.1.size+1+1,4,none⟩) zC1).trans r4;have s5:=(hB4.cell (p:=⟨w.1.size+1+1,5,none⟩) zC1).trans r5;have s6:=(hB4.cell (p:=⟨w.1.size+1+1,6,none⟩) zC1).trans r6;have d0:=hd.cell 0 Zc;have d1:=hd.cell 1 Zc;have d2:=hd.cell 2 Zc;have d3:=hd.cell 3 Zc;have d4:=hd.cell 4 Zc;have d5:=hd.cell 5 Zc;have d6:=hd.cell 6 Zc;have df:=hd.free;simp only[AW,Aa,Ab]at d0 d1 d2 d3 d4 d5 d6;clear b0 b1 b2 b3 b4 p0 p1 p2 p3 p4 p5 r0 r1 r2 r3 r4 r5 r6 Y1 Y2;clear hb4 hB4 hd MZ zA1 zA2 zA3 zA4 zB1 zB2 zB3 zB4 zC2 zC3 zC4;have zz:w.1.size+1+1<w3.1.size:=Za;have zz2:w.1.size+1+1<w3.1.size+1:=Za;have zy:w2.1.size+1<w3.1.size+1:=Za;have MZ:=Z0;clear Z0;go_wp2;refine bodyPost_ret (v:=.agg #[.i 4,.i B.now,.i B.floor,.l a1 B.on c1,.l a2 B.hn c2,.l a3 B.tn c3,.i (Cu B.os v.kind v.name B.on).ver]) (by simp[results,results75,go_sem,s0,s1,s2,s3,s4,s5,s6,zz,NG]) rfl ⟨rfl,by repeat(first|with_reducible exact MZ.out|with_reducible refine By ?_ Zi _|with_reducible refine B9 ?_ Zi _|with_reducible refine Cg ?_)⟩
end Go.Proofs.YtnnjcenacidceaaGreat
namespace Go.Proofs.YtnnjcenacidceaaGreat
open Go.RowKit Go.Maps Go.Proofs.Tryz
theorem P7{X Y:World}{hi r xb:Nat}{A:OA}{n:Nat}{s:Nat->ByteArray}(h:AD X 0 hi A n s)(hr:∀j t,¬X.cell? ⟨r,j,none⟩=some (.s t))(hf:Ay (λq=>q=r\/q=xb) X Y)(hx:hi<=xb)(hz:hi<=X.1.size):AD Y 0 Y.1.size A n s:=λi hi'=>by
 obtain⟨b,off,e1,_,e3,e4⟩:=h i hi';refine⟨b,off,e1,At _,Ad (Ad e3 hz) hf.size,(hf.cell (p:=⟨b,off+i,none⟩) (Ad e3 hz) ?_).trans e4⟩;rintro(e|e);.have e':b=r:=e;rw[e']at e4;exact hr _ _ e4
 .have e':b=xb:=e;omega
theorem eG{X Y:World}{base hi r xb:Nat}{v:Value}{m:Nat}{y:Nat->Ob}{A:Nat->Option Addr}{C:Nat->Nat}(h:j0 X base 0 hi v m y A C)(hr:∀j t,¬X.cell? ⟨r,j,none⟩=some (.s t))(hf:Ay (λq=>q=r\/q=xb) X Y)(hx:hi<=xb)(hz:hi<=X.1.size)(hb:xb<base)(hrb:r<base):∃ad cap,v=.l ad m cap/\BS Y 0 Y.1.size ad m y:=by
 obtain⟨c,ho,hat⟩:=h.row;rcases Bi m with h0|h0;.obtain⟨ad,cap,e⟩:=PY ho;exact⟨ad,cap,e,λi hi'=>absurd hi' Za⟩
 .obtain⟨g,cap,e,hg,r0⟩:=PQ ho h0;have r1:=r0.fr hf (by rintro(e|e)<;>omega);refine⟨_,cap,e,λi hi'=>?_⟩;obtain⟨a0,a1,a2,a3,a4,a5,a6⟩:=hat i hi';refine⟨g,0,A i,C i,rfl,At _,r1.lt,?_,P7 (h.hold i hi') hr hf hx hz⟩;rw[Bd];exact⟨(r1.cell _ Za).trans (congrArg some a0),(r1.cell _ Za).trans (congrArg some a1),(r1.cell _ Za).trans (congrArg some a2),(r1.cell _ Za).trans (congrArg some a3),(r1.cell _ Za).trans (congrArg some a4),(r1.cell _ Za).trans (congrArg some a5),(r1.cell _ Za).trans (congrArg some a6)⟩
theorem dD{_W X Y:World}{hi r xb n k:Nat}{cc:Nat->Value}{c:Ch}{adc:OA}{capc:Nat}{x:Nat->Ch}{A:Nat->Option Addr}{C:Nat->Nat}{g cp:Nat}(hrw:Rw X (some ⟨g,0,none⟩) g (n+1) cp 9 (BT cc (n*9) (AW [.i c.ver,.bool c.gone,.s c.ob.kind,.s c.ob.name,.i c.ob.ver,.i c.ob.born,.s c.ob.text,.bool c.ob.ending,.l adc c.ob.hn capc])))(_hcp:0<cp)(hat:∀i,i<n->Qf cc i (x i) (A i) (C i))(hho:∀i,i<n->AD X 0 hi (A i) (x i).ob.hn (x i).ob.hs)(hhc:AD X 0 hi adc c.ob.hn c.ob.hs)(hr:∀j t,¬X.cell? ⟨r,j,none⟩=some (.s t))(hf:Ay (λq=>q=r\/q=xb) X Y)(hx:hi<=xb)(hz:hi<=X.1.size)(hg:¬g=r/\¬g=xb)(hk:k<=n):CB Y 0 Y.1.size (some ⟨g,k*9,none⟩) (n+1-k) (λi=>if i+k<n then x (i+k)else c):=λi hi'=>by
 have r1:AN Y g ((n+1)*9) (BT cc (n*9) (AW [.i c.ver,.bool c.gone,.s c.ob.kind,.s c.ob.name,.i c.ob.ver,.i c.ob.born,.s c.ob.text,.bool c.ob.ending,.l adc c.ob.hn capc])):=(hrw.rowF Za).2.fr hf (by rintro(e|e);exact hg.1 e;exact hg.2 e);by_cases h:i+k<n;.obtain⟨a0,a1,a2,a3,a4,a5,a6,a7,a8⟩:=hat (i+k) h;refine⟨g,k*9,A (i+k),C (i+k),rfl,At _,r1.lt,?_,by dsimp only;rw[if_pos h];exact P7 (hho _ h) hr hf hx hz⟩;dsimp only;rw[if_pos h,show k*9+i*9=(i+k)*9 by omega];have q:∀j,j<9->Y.cell? ⟨g,(i+k)*9+j,none⟩=some (cc ((i+k)*9+j)):=λj hj=>(r1.cell _ Za).trans (by unfold BT;rw[if_pos Za]);exact⟨(q 0 Za).trans (congrArg some a0),(q 1 Za).trans (congrArg some a1),(q 2 Za).trans (congrArg some a2),(q 3 Za).trans (congrArg some a3),(q 4 Za).trans (congrArg some a4),(q 5 Za).trans (congrArg some a5),(q 6 Za).trans (congrArg some a6),(q 7 Za).trans (congrArg some a7),(q 8 Za).trans (congrArg some a8)⟩
 .have e:i+k=n:=Za;refine⟨g,k*9,adc,capc,rfl,At _,r1.lt,?_,by dsimp only;rw[if_neg h];exact P7 hhc hr hf hx hz⟩;dsimp only;rw[if_neg h,show k*9+i*9=n*9 by omega];have q:∀j,j<9->Y.cell? ⟨g,n*9+j,none⟩=some (AW [.i c.ver,.bool c.gone,.s c.ob.kind,.s c.ob.name,.i c.ob.ver,.i c.ob.born,.s c.ob.text,.bool c.ob.ending,.l adc c.ob.hn capc] j):=λj hj=>(r1.cell _ Za).trans (by unfold BT;rw[if_neg Za,Lj]);exact⟨q 0 Za,q 1 Za,q 2 Za,q 3 Za,q 4 Za,q 5 Za,q 6 Za,q 7 Za,q 8 Za⟩
theorem YC{w X Y:World}{r xb:Nat}{ad:OA}{n:Nat}{x:Nat->Ti}(h:DY w 0 w.1.size ad n x)(hb:Below w.1.size w X)(hf:Ay (λq=>q=r\/q=xb) X Y)(hr:w.1.size<=r)(hx:w.1.size<=xb):DY Y 0 Y.1.size ad n x:=λi hi=>by obtain⟨b,off,e1,_,e3,e4⟩:=h i hi;have e5:=e4.below hb e3;have zX:=hb.size;have q:∀j,Y.cell? ⟨b,j,none⟩=X.cell? ⟨b,j,none⟩:=λj=>hf.cell (p:=⟨b,j,none⟩) (show b<_ by omega) (by rintro(e|e)<;>(have e':b=_:=e;omega));exact⟨b,off,e1,At _,by have:=hf.size;omega,⟨(q _).trans e5.c0,(q _).trans e5.c1,(q _).trans e5.c2,(q _).trans e5.c3,(q _).trans e5.c4⟩⟩
end Go.Proofs.YtnnjcenacidceaaGreat
namespace Go.Proofs.YtnnjcenacidceaaGreat
open Go.RowKit Go.Maps Go.Proofs.Tryz
def yQ (B:Bk)(v:Wr)(A3:OA)(C3:Nat)(w:World)(e:Ending)(w':World):Prop:=Below w.1.size w w'/\∃(a1 a2 a3:OA)(c1 c2 c3:Nat),e=.returned (.agg #[.i 0,.i (Mj B v).now,.i (Mj B v).floor,.l a1 (Mj B v).on c1,.l a2 (Mj B v).hn c2,.l a3 (Mj B v).tn c3,.i (B.now+1)])/\BF w' 0 w'.1.size (Mj B v) a1 a2 a3/\a3=A3/\c3=C3
theorem AD.up5{w:World}{lo hi hi':Nat}{ad:OA}{n:Nat}{s:Nat->ByteArray}(h:AD w lo hi ad n s)(hh:hi<=hi'):AD w lo hi' ad n s:=λi h'=>by obtain⟨b,off,e1,e2,e3,e4⟩:=h i h';exact⟨b,off,e1,e2,Za,e4⟩
theorem aX{w X Y:World}{a b:Nat}(h:Below w.1.size w X)(hf:Ay (λq=>q=a\/q=b) X Y)(ha:w.1.size<=a)(hb:w.1.size<=b):Below w.1.size w Y:=h.trans (hf.below (λq hq e=>by rcases e with e|e<;>omega) h.size)
theorem T7 (B:Bk)(v:Wr)(a1 a2 a3:OA)(c1 c2 c3:Nat)(w:World)(hok:Nj B v)(hc:BF w 0 w.1.size B a1 a2 a3)(h0:BN B v=0):Calls prog 75 #[.agg (vB B a1 a2 a3 c1 c2 c3),.agg (vW v)] w λe w'=>yQ B v a3 c3 w e w':=by
 have B3:∀o1 o2 o3,Below w.1.size w (((w.alloc o1).alloc o2).alloc o3):=λo1 o2 o3=>(((Aq _ _).alloc AQ _).alloc Zc _).alloc Zd _;have FA:=Aj B3;clear B3;have oB:=Aj hok.wr;have oH:=Aj hok.wf;have MM:=Aj hok;have HC:=Aj hc.o;have uJ:=Aj hc;clear hok hc;have H0:=Aj h0;clear h0;go_enter func75,ntmps75;go_wp2_with fail;refine(LB v oH _).mono ?_;rintro e w1 ⟨rfl,hb1⟩;rw[oB.out];have z1:w.1.size+1+1<w1.1.size:=by have:=hb1.size;simp at this;omega
 have SA:=Aj hb1;have MZ:=Aj ((FA _ _ _).trans (hb1.mono Zd));obtain⟨X0,X1,X2,Y1,Y2⟩:=BO hb1;have b0:=X0 0;have b1:=X0 1;have b2:=X0 2;have b3:=X0 3;have b4:=X0 4;have p0:=X1 0;have p1:=X1 1;have p2:=X1 2;have p3:=X1 3;have p4:=X1 4;have p5:=X1 5;have r0:=X2 0;have r1:=X2 1;have r2:=X2 2;have r3:=X2 3;have r4:=X2 4;have r5:=X2 5;have r6:=X2 6;simp only[Ag,Af,Ae]at b0 b1 b2 b3 b4 p0 p1 p2 p3 p4 p5 r0 r1 r2 r3 r4 r5 r6;clear X0 X1 X2;clear hb1;go_wp2_with fail;refine(TR B v a1 a2 a3 c1 c2 c3 w1 MM (HC.below MZ AQ|>.grow5 MZ.size)).mono ?_;rintro e w2 ⟨hb2,hres⟩;rcases hres with⟨hz,_⟩|⟨_,A,C,rfl,hsc⟩;.exact absurd H0.out hz
 have wI:=Aj hsc;clear hsc;have hb3:=SA.trans (hb2.mono SA.size);have z2:w.1.size+1+1<w2.1.size:=by have:=hb2.size;omega
 have SG:=Aj (MZ.trans (hb2.mono MZ.size));clear b0 b1 b2 b3 b4 p0 p1 p2 p3 p4 p5 r0 r1 r2 r3 r4 r5 r6 Y1 Y2;obtain⟨X0,X1,X2,Y1,Y2⟩:=BO hb3;have b0:=X0 0;have b1:=X0 1;have b2:=X0 2;have b3:=X0 3;have b4:=X0 4;have p0:=X1 0;have p1:=X1 1;have p2:=X1 2;have p3:=X1 3;have p4:=X1 4;have p5:=X1 5;have r0:=X2 0;have r1:=X2 1;have r2:=X2 2;have r3:=X2 3;have r4:=X2 4;have r5:=X2 5;have r6:=X2 6;simp only[Ag,Af,Ae]at b0 b1 b2 b3 b4 p0 p1 p2 p3 p4 p5 r0 r1 r2 r3 r4 r5 r6;clear X0 X1 X2;have vY:=Aj hb3;clear hb3 hb2 z1 MZ;have zA1:w.1.size<w2.1.size:=Za;have zA2:w.1.size<w2.1.size+1:=Za;have zA3:w.1.size<w2.1.size+1+1:=Za;have zA4:w.1.size<w2.1.size+1+1+1:=Za;have zB1:w.1.size+1<w2.1.size:=Za;have zB2:w.1.size+1<w2.1.size+1:=Za;have zB3:w.1.size+1<w2.1.size+1+1:=Za;have zB4:w.1.size+1<w2.1.size+1+1+1:=Za;have zC1:w.1.size+1+1<w2.1.size:=Za;have zC2:w.1.size+1+1<w2.1.size+1:=Za;have zC3:w.1.size+1+1<w2.1.size+1+1:=Za;have zC4:w.1.size+1+1<w2.1.size+1+1+1:=Za;have MZ:=SG;clear SG;have hon:(B.on:Int)<=100:=by have:=MM.on;omega
 have Wd:=Aj hon;clear hon;obtain⟨c,hcw⟩:∃c,Ef B v=c:=⟨_,rfl⟩;rw[hcw]at wI⊢;have yU:=Aj hcw;clear hcw;go_wp2_with fail;refine(YX B.on B.os a1 c1 c A C _ 0 w2.1.size Zd ZE ((HC.out.below (B:=w.1.size) (by repeat(first|with_reducible exact MZ.out|with_reducible refine By ?_ Zi _|with_reducible refine B9 ?_ Zi _|with_reducible refine Cg ?_)) AQ).grow5 Za) (wI.out.below (B:=w2.1.size) ((Ap _ _).alloc Zc _) AQ)).mono ?_;rintro e w3 ⟨u,A1,C1,rfl,hbd,hb4⟩;obtain⟨a1n,c1n,rfl⟩:∃ad cap,u=.l ad (KV B.on B.os c.ob c.gone).m cap:=by obtain⟨_,ho,_⟩:=hbd.row;exact PY ho
 obtain⟨m,hm⟩:∃m,(KV B.on B.os c.ob c.gone).m=m:=⟨_,rfl⟩;rw[hm]at hbd⊢;have HM:=Aj hm;clear hm;have hB2:Below w2.1.size w2 w3:=((Ap _ _).alloc Zc _).trans (hb4.mono Zd);have hcr:AN w3 w2.1.size 9 (AW [.i c.ver,.bool c.gone,.s c.ob.kind,.s c.ob.name,.i c.ob.ver,.i c.ob.born,.s c.ob.text,.bool c.ob.ending,.l A c.ob.hn C]):=AN.new (w:=w2) (l:=[.i c.ver,.bool c.gone,.s c.ob.kind,.s c.ob.name,.i c.ob.ver,.i c.ob.born,.s c.ob.text,.bool c.ob.ending,.l A c.ob.hn C]) (t:=53) ((Ap _ _).trans (hb4.mono Zc));have hxr:=AN.new (w:=w2.alloc (.cells #[.i c.ver,.bool c.gone,.s c.ob.kind,.s c.ob.name,.i c.ob.ver,.i c.ob.born,.s c.ob.text,.bool c.ob.ending,.l A c.ob.hn C] 53)) (l:=[.i c.ver,.i B.floor,.l a1 B.on c1,.l a2 B.hn c2,.l a3 B.tn c3]) (t:=27) hb4;rw[Av]at hxr;have j5:=Aj hB2;have z3:w2.1.size+1<w3.1.size:=by have:=hb4.size;simp at this;omega
 simp only[Av]at hbd;have Xr:=Aj hbd;have Z0:=Aj (MZ.trans (hB2.mono MZ.size));have y2:∀i,w3.frozen? ⟨w.1.size+1+1,i,none⟩=false:=λi=>(hB2.frozen (p:=⟨w.1.size+1+1,i,none⟩) zC1).trans (Y2 i);have g3:=(hB2.cell (p:=⟨w.1.size,3,none⟩) zA1).trans b3;have s0:=(hB2.cell (p:=⟨w.1.size+1+1,0,none⟩) zC1).trans r0;have s1:=(hB2.cell (p:=⟨w.1.size+1+1,1,none⟩) zC1).trans r1;have s2:=(hB2.cell (p:=⟨w.1.size+1+1,2,none⟩) zC1).trans r2;have s3:=(hB2.cell (p:=⟨w.1.size+1+1,3,none⟩) zC1).trans r3;have s4:=(hB2.cell (p:=⟨w.1.size+1+1,4,none⟩) zC1).trans r4;have s5:=(hB2.cell (p:=⟨w.1.size+1+1,5,none⟩) zC1).trans r5;have s6:=(hB2.cell (p:=⟨w.1.size+1+1,6,none⟩) zC1).trans r6;have rU:=Aj (show∀j t,¬w3.cell? ⟨w.1.size+1+1,j,none⟩=some (.s t)from λj t h=>by
  have h2:=(hB2.cell (p:=⟨w.1.size+1+1,j,none⟩) zC1).symm.trans h;have h3:=(BO vY).2.2.1 j;rw[h2]at h3;rcases(show j<7\/7<=j by omega)with h4|h4;.rcases(show j=0\/j=1\/j=2\/j=3\/j=4\/j=5\/j=6 by omega)with rfl|rfl|rfl|rfl|rfl|rfl|rfl<;>simp at h3
  .rw[Bt (by simpa using h4)]at h3;cases h3);have x0:=hxr.cell 0 Zc;have x1:=hxr.cell 1 Zc;have x2:=hxr.cell 2 Zc;have x3:=hxr.cell 3 Zc;have x4:=hxr.cell 4 Zc;have xf:=hxr.free;have d0:=hcr.cell 0 Zb;have d1:=hcr.cell 1 Zb;have d2:=hcr.cell 2 Zb;have d3:=hcr.cell 3 Zb;have d4:=hcr.cell 4 Zb;have d5:=hcr.cell 5 Zb;have d6:=hcr.cell 6 Zb;have d7:=hcr.cell 7 Zb;have d8:=hcr.cell 8 Zb;have df:=hcr.free;simp only[AW,Aa,Ab]at d0 d1 d2 d3 d4 d5 d6 d7 d8 x0 x1 x2 x3 x4;have yW:=Aj hcr;have zD:=Aj hxr;clear b0 b1 b2 b3 b4 p0 p1 p2 p3 p4 p5 r0 r1 r2 r3 r4 r5 r6 Y1 Y2;clear hb4 hcr hxr hbd MZ FA SA;have MZ:=Z0;have zw:w.1.size<w3.1.size:=Za;have zw2:w.1.size+1+1<w3.1.size:=Za;have zw3:w2.1.size<w3.1.size:=Za;clear Z0 hB2;go_wp2;obtain⟨W,hW⟩:∃W,w3.setCell ⟨w2.1.size+1,2,none⟩ (.l a1n m c1n)=W:=⟨_,rfl⟩;rw[hW];have F4:Ay (λq=>q=w2.1.size+1) w3 W:=by rw[<-hW];exact Ay.setCell (P:=λq=>q=w2.1.size+1) (p:=⟨w2.1.size+1,2,none⟩) (Ay.refl _ _) rfl _
 have hX4:AN W (w2.1.size+1) 5 (AW [.i c.ver,.i B.floor,.l a1n m c1n,.l a2 B.hn c2,.l a3 B.tn c3]):=by rw[<-hW];exact((show AN w3 (w2.1.size+1) 5 (AW [.i c.ver,.i B.floor,.l a1 B.on c1,.l a2 B.hn c2,.l a3 B.tn c3])from zD.out).set (o:=2) Zb _).congr (λj hj=>by rcases(show j=0\/j=1\/j=2\/j=3\/j=4 by omega)with rfl|rfl|rfl|rfl|rfl<;>rfl)
 have hC4:AN W w2.1.size 9 (AW [.i c.ver,.bool c.gone,.s c.ob.kind,.s c.ob.name,.i c.ob.ver,.i c.ob.born,.s c.ob.text,.bool c.ob.ending,.l A c.ob.hn C]):=yW.fr F4 Za;have zW:w3.1.size<=W.1.size:=F4.size;have hBW4:Below w.1.size w W:=by rw[<-hW];exact MZ.setCell (by show w.1.size<=w2.1.size+1;omega) _
 have Uw:=Aj (show∀j,W.cell? ⟨w.1.size+1+1,j,none⟩=w3.cell? ⟨w.1.size+1+1,j,none⟩from λj=>F4.cell (p:=⟨w.1.size+1+1,j,none⟩) zw2 (by show¬w.1.size+1+1=w2.1.size+1;omega));have v9:=Aj (show∀j,W.frozen? ⟨w.1.size+1+1,j,none⟩=false from λj=>(F4.frozen (p:=⟨w.1.size+1+1,j,none⟩) zw2 (by show¬w.1.size+1+1=w2.1.size+1;omega)).trans (y2 j));have k3:=(F4.cell (p:=⟨w.1.size,3,none⟩) zw (by show¬w.1.size=w2.1.size+1;omega)).trans g3;obtain⟨cc,A2,C2,hsrc,hatc,hstc⟩:=CB.src (uJ.h.below hBW4 AQ);have sR:=Aj hatc;have wL:=Aj hstc;have yH:=Aj F4;have zP:=Aj hX4;have ao:=Aj hC4;have kB:=Aj hBW4;refine cB (λ_=>undef) w.1.size w2.1.size (w2.1.size+1) a2 B.hn c2 c A C cc 0 w.1.size W MM.hn Za hsrc Za k3 hC4 Za _ (hX4.cell 3 Zb) (hX4.free 3) rfl _ ?_;rintro t v3 X ⟨hrw,hbX⟩;obtain⟨ad3,gh,cp3,rfl,hr3,hl3⟩:=hrw;have hcp:0<cp3:=Ad Za hr3.le;have had:=hr3.addr hcp;subst had;have hgh:=hl3 hcp;have zX:=hbX.size;have zgh:=(hr3.room hcp).lt;have hle3:=hr3.le;have rO:=Aj hr3;have TF:=Aj hbX;have hx5:=zP.below hbX Za;have hc5:=ao.below hbX Za;have e0:(B.hn=200)->X.cell? ⟨gh,0,none⟩=some (.i (B.hs 0).ver):=λh=>by rw[hr3.cell 0 Za];unfold BT;rw[if_pos Za];exact congrArg some (sR.out 0 Za).1
 clear d0 d1 d2 d3 d4 d5 d6 d7 d8 df x0 x1 x2 x3 x4 xf;have d0:=hc5.cell 0 Zb;have d1:=hc5.cell 1 Zb;have d2:=hc5.cell 2 Zb;have d3:=hc5.cell 3 Zb;have d4:=hc5.cell 4 Zb;have d5:=hc5.cell 5 Zb;have d6:=hc5.cell 6 Zb;have d7:=hc5.cell 7 Zb;have d8:=hc5.cell 8 Zb;have x0:=hx5.cell 0 Zb;have x1:=hx5.cell 1 Zb;have x2:=hx5.cell 2 Zb;have x3:=hx5.cell 3 Zb;have x4:=hx5.cell 4 Zb;have r0:=(TF.cell (p:=⟨w.1.size+1+1,0,none⟩) Zw).trans ((Uw.out 0).trans s0);have r1:=(TF.cell (p:=⟨w.1.size+1+1,1,none⟩) Zw).trans ((Uw.out 1).trans s1);have r2:=(TF.cell (p:=⟨w.1.size+1+1,2,none⟩) Zw).trans ((Uw.out 2).trans s2);have r3:=(TF.cell (p:=⟨w.1.size+1+1,3,none⟩) Zw).trans ((Uw.out 3).trans s3);have r4:=(TF.cell (p:=⟨w.1.size+1+1,4,none⟩) Zw).trans ((Uw.out 4).trans s4);have r5:=(TF.cell (p:=⟨w.1.size+1+1,5,none⟩) Zw).trans ((Uw.out 5).trans s5);have r6:=(TF.cell (p:=⟨w.1.size+1+1,6,none⟩) Zw).trans ((Uw.out 6).trans s6);simp only[AW,Aa,Ab]at d0 d1 d2 d3 d4 d5 d6 d7 d8 x0 x1 x2 x3 x4;have df:=hc5.free;have xf:=hx5.free;have rf:∀j,X.frozen? ⟨w.1.size+1+1,j,none⟩=false:=λj=>(TF.frozen (p:=⟨w.1.size+1+1,j,none⟩) Zw).trans (v9 j);clear s0 s1 s2 s3 s4 s5 s6 y2 g3 k3 hsrc hatc hstc F4 hX4 hC4 hBW4 hr3 hl3 hbX hx5 hc5 hW zA1 zA2 zA3 zA4 zB1 zB2 zB3 zB4 zC2 zC3 zC4;have zx1:w2.1.size<X.1.size:=Za;have zx2:w2.1.size+1<X.1.size:=Za;have zx3:w.1.size+1+1<X.1.size:=Za;have tB:=Aj (show∀(Y:World)(k cpn nn:Nat)(fl:Int),Ay (λq=>q=w.1.size+1+1\/q=w2.1.size+1) X Y->k=ME B->nn=B.hn+1-k->fl=(Mj B v).floor->yQ B v a3 c3 w (.returned (.agg #[.i 0,.i c.ver,.i fl,.l a1n m c1n,.l (some ⟨gh,k*9,none⟩) nn cpn,.l a3 B.tn c3,.i c.ver])) Y from λY k cpn nn fl hf hk hnn hfl=>by
  subst hk;subst hnn;subst hfl;have hf3:Ay (λq=>q=w.1.size+1+1\/q=w2.1.size+1) w3 Y:=(yH.mono (λq e=>AE e)).trans ((Ar TF).trans hf);obtain⟨ad,cap,e,ho⟩:=eG Xr rU hf3 Za Za Za Za;cases e;have hSX:∀j t,¬X.cell? ⟨w.1.size+1+1,j,none⟩=some (.s t):=λj t h=>rU.out j t (by rw[<-Uw.out j,<-TF.cell (p:=⟨w.1.size+1+1,j,none⟩) Zw];exact h);have hck:ME B<=B.hn:=by unfold ME;split<;>omega
  have hh:=dD (_W:=W) (k:=ME B) rO hcp sR (λi hi=>((wL i hi).below TF Za).up5 Za) (((wI.below j5 AQ).frP yH Za (λq hq e=>by omega)).below TF Za) hSX hf Za Za ⟨Za,Za⟩ hck;have ht:=YC uJ.t (kB.trans (TF.mono kB.size)) hf Za Za;have ew:=yU.out;subst ew;have e1:(Mj B v).on=m:=HM.out;have e2:(Mj B v).hn=B.hn+1-ME B:=by show B.hn-ME B+1=_;omega
  have e3:(Mj B v).hs=(λi=>if i+ME B<B.hn then B.hs (i+ME B)else Ef B v):=by
   funext i;show(if i<B.hn-ME B then _ else _)=_;by_cases h:i<B.hn-ME B;.rw[if_pos h,if_pos Za]
   .rw[if_neg h,if_neg Za]
  refine⟨aX (kB.trans (TF.mono kB.size)) hf Za Za,a1n,some ⟨gh,ME B*9,none⟩,a3,c1n,cpn,c3,?_,⟨?_,?_,ht⟩,rfl,rfl⟩;.rw[e1,e2];rfl
  .rw[e1];exact ho
  .rw[e2,e3];exact hh);by_cases hn200:B.hn=200;.have e0':=e0 hn200;have Xs:=Aj hn200;clear e0;go_wp2;refine bodyPost_ret (v:=.agg #[.i 0,.i c.ver,.i (B.hs 0).ver,.l a1n m c1n,.l (some ⟨gh,9,none⟩) 200 (cp3-1),.l a3 B.tn c3,.i c.ver]) (by simp[results,results75,go_sem,r0,r1,r2,r3,r4,r5,r6]) rfl (tB.out _ 1 (cp3-1) 200 _ (by repeat(first|with_reducible exact Ay.refl _ _|with_reducible refine Ay.setCell ?_ (by first|exact AB rfl|exact AE rfl) _)) (by unfold ME;rw[if_pos Xs.out]) (by rw[Xs.out]) (by unfold Mj;dsimp only;rw[if_pos Xs.out]))
 .have Xs:=Aj hn200;have hgt:(B.hn:Int)+1<=200:=by have:=MM.hn;omega
  clear e0;go_wp2;refine bodyPost_ret (v:=.agg #[.i 0,.i c.ver,.i B.floor,.l a1n m c1n,.l (some ⟨gh,0,none⟩) (B.hn+1) cp3,.l a3 B.tn c3,.i c.ver]) (by simp[results,results75,go_sem,r0,r1,r2,r3,r4,r5,r6]) rfl (tB.out _ 0 cp3 (B.hn+1) _ (by repeat(first|with_reducible exact Ay.refl _ _|with_reducible refine Ay.setCell ?_ (by first|exact AB rfl|exact AE rfl) _)) (by unfold ME;rw[if_neg Xs.out]) Za (by unfold Mj;dsimp only;rw[if_neg Xs.out]))
end Go.Proofs.YtnnjcenacidceaaGreat
namespace Go.Proofs.YtnnjcenacidceaaGreat
open Go.RowKit Go.Maps Go.Proofs.Tryz
theorem Of{P:Ob->Prop}{f:Nat->Ob}{o:Ob}(h:∀j,P (f j))(ho:P o)(k:Nat):∀j,P (B7 f k o j):=λj=>by
 unfold B7;split;.exact ho
 .exact h j
theorem PT{P:Ob->Prop}{x:Nat->Ob}{o:Ob}{g:Bool}(ho:P o):∀k,(∀i,i<k->P (x i))->∀j,P ((Fm x o g k).y j)
 |0,_=>λ_=>ho
 |k+1,h=>by
  have ih:=PT (g:=g) ho k (λi hi=>h i Za);have hx:=h k Za;show∀j,P ((Cz o (x k) (Fm x o g k)).y j);unfold Cz;split
  .split;.exact ih
   .exact Of ih hx _
  .split;.exact Of ih hx _
   .split;.exact Of ih ho _
    .exact Of (Of ih ho _) hx _
theorem Sq{P:Ob->Prop}{x:Nat->Ob}{o:Ob}{g:Bool}{n:Nat}(ho:P o)(h:∀i,i<n->P (x i)):∀j,P ((KV n x o g).y j):=by
 unfold KV OY;split;.exact PT ho n h
 .exact Of (PT ho n h) ho _
theorem TD (n:Nat)(x:Nat->Ob)(o:Ob)(g:Bool):(KV n x o g).m<=n+1:=by
 have h:=So x o g n;unfold KV OY;split;.omega
 .rename_i hd;rw[if_neg hd]at h;exact h
theorem Sx{x:Int}(h0:0<=x)(h1:x<=1000001):(Lit.int .i64 x).wf=true:=by have a:IntKind.i64.min<=0:=Zb;have b:(1000001:Int)<=IntKind.i64.max:=Zb;simp only[Lit.wf,Am,decide_eq_true_eq];omega
theorem mW{B:Bk}{v:Wr}(hok:Nj B v):Ec (BY B v):=by unfold BY Cu;cases h:Nq B.os v.kind v.name B.on with
 |none=>exact(show Ec kW from⟨Zb,Zb,Zb,Zb,λi hi=>absurd hi (Ai _),Sx Zb Zb⟩)
 |some i=>exact hok.fit.os i (OU h).1
theorem XG{B:Bk}{v:Wr}(hok:Nj B v):Ec (Cv B v):=by
 have hf:=mW hok;have hl:=(Wn hok).1;have wf:=hok.wf;have hv:(Lit.int .i64 (B.now+1)).wf=true:=Sx (by have:=hok.now0;omega) (by have:=hok.now1;omega);unfold Cv M8;split;.exact⟨wf.k,wf.n,wf.t,by dsimp only;split<;>decide,λi _=>wf.h,hv⟩
 .split;.exact⟨hf.k,hf.n,wf.t,hf.h,hf.s,hv⟩
  .split;.exact⟨hf.k,hf.n,hf.t,hf.h,hf.s,hv⟩
   .split
    .refine⟨hf.k,hf.n,hf.t,by dsimp only;omega,λi hi=>?_,hv⟩;dsimp only at hi⊢;unfold QM;have hr:=(M2 (BY B v).hs v.hold (BY B v).hn).1;split;.exact hf.s i Za
     .split;.exact wf.h
      .exact hf.s (i-1) Za
    .refine⟨hf.k,hf.n,hf.t,by dsimp only;omega,λi hi=>?_,hv⟩;dsimp only at hi⊢;unfold Ns;split;.exact hf.s i Za
     .exact hf.s (i+1) Za
theorem Us{B:Bk}{v:Wr}(hok:Nj B v):BQ (Mj B v)/\((Mj B v).on:Int)<=1048576/\((Mj B v).hn:Int)<=1048576:=by
 have h1:=TD B.on B.os (Cv B v) (C7 B v);have h2:=hok.on;have h3:=hok.hn;have e1:(Mj B v).on<=101:=by show(KV B.on B.os (Cv B v) (C7 B v)).m<=101;omega
 have e2:(Mj B v).hn<=201:=by show B.hn-ME B+1<=201;omega
 refine⟨⟨Za,Za,hok.fit.t,λi _=>Sq (P:=Ec) (XG hok) hok.fit.os i,λi _=>?_,hok.fit.ts⟩,Za,Za⟩;show Ec (tX B (Ef B v) i).ob;unfold tX;split;.exact hok.fit.hs _ Za
 .exact XG hok
end Go.Proofs.YtnnjcenacidceaaGreat
namespace Go.Proofs.YtnnjcenacidceaaGreat
open Go.RowKit Go.Maps Go.Proofs.Tryz
theorem Oq{w w':World}{lo b j:Nat}{u:Value}(h:w.cell? ⟨b,j,none⟩=some u)(hf:Ay (λq=>q<lo) w w')(hl:lo<=b)(hz:b<w.1.size):w'.cell? ⟨b,j,none⟩=some u:=(hf.cell (p:=⟨b,j,none⟩) hz (by show¬b<lo;omega)).trans h
theorem AD.frLo{w w':World}{lo hi hi':Nat}{ad:OA}{n:Nat}{s:Nat->ByteArray}(h:AD w lo hi ad n s)(hf:Ay (λq=>q<lo) w w')(hz:hi<=w.1.size)(hh:hi<=hi'):AD w' lo hi' ad n s:=λi h'=>by obtain⟨b,off,e1,e2,e3,e4⟩:=h i h';exact⟨b,off,e1,e2,Za,Oq e4 hf e2 Za⟩
theorem BF.frLo{w w':World}{lo hi hi':Nat}{x:Bk}{a1 a2 a3:OA}(h:BF w lo hi x a1 a2 a3)(hf:Ay (λq=>q<lo) w w')(hz:hi<=w.1.size)(hh:hi<=hi'):BF w' lo hi' x a1 a2 a3:=⟨λi h'=>by obtain⟨b,off,ah,ch,e1,e2,e3,e4,e5⟩:=h.o i h';have c:∀{j u},w.cell? ⟨b,j,none⟩=some u->w'.cell? ⟨b,j,none⟩=some u:=λq=>Oq q hf e2 Za;exact⟨b,off,ah,ch,e1,e2,Za,⟨c e4.c0,c e4.c1,c e4.c2,c e4.c3,c e4.c4,c e4.c5,c e4.c6⟩,e5.frLo hf hz hh⟩,λi h'=>by obtain⟨b,off,ah,ch,e1,e2,e3,e4,e5⟩:=h.h i h';have c:∀{j u},w.cell? ⟨b,j,none⟩=some u->w'.cell? ⟨b,j,none⟩=some u:=λq=>Oq q hf e2 Za;exact⟨b,off,ah,ch,e1,e2,Za,⟨c e4.c0,c e4.c1,c e4.c2,c e4.c3,c e4.c4,c e4.c5,c e4.c6,c e4.c7,c e4.c8⟩,e5.frLo hf hz hh⟩,λi h'=>by obtain⟨b,off,e1,e2,e3,e4⟩:=h.t i h';have c:∀{j u},w.cell? ⟨b,j,none⟩=some u->w'.cell? ⟨b,j,none⟩=some u:=λq=>Oq q hf e2 Za;exact⟨b,off,e1,e2,Za,⟨c e4.c0,c e4.c1,c e4.c2,c e4.c3,c e4.c4⟩⟩⟩
end Go.Proofs.YtnnjcenacidceaaGreat
