import Derived.Test.YtofencldleijcaaGreatPk20
set_option maxRecDepth 100000
namespace Go.Proofs.YtofencldleijcaaGreat
open Go.RowKit Go.Proofs.Tryz
structure nT (W:World)(a b c:Bool)(va vb vc:Value)(RA RB RC:Value->World->Prop)(X:World):Prop where
 ra:a=true->c=false->RA va X
 rb:b=true->c=false->RB vb X
 sep:a=true->b=true->c=false->∀g h n k m,va=.l (some ⟨g,0,none⟩) n k->0<k->vb=.l (some ⟨h,0,none⟩) m m->g≠h
 rc:c=true->RC vc X
def oG (n a b c:Nat)(ops:Array Oper)(mk:(Nat->Value)->Array Value)(W:World)(PV:Nat->Value->Prop)(RA RB RC:Value->World->Prop)(Fin:Act->World->Prop)(l:Array Bool)(ac:Act)(X:World):Prop:=l.size=n+1/\(∀i j,Cf ops i j->l.getD i false=true->l.getD j false=true)/\(l.getD n false=true->(∀i,i<n+1->l.getD i false=true)/\Fin ac X)/\(l.getD n false=false->∃t:Nat->Value,ac=⟨mk t,[]⟩/\Below W.1.size W X/\(∀i,i<n->l.getD i false=true->PV i (t i))/\nT W (l.getD a false) (l.getD b false) (l.getD c false) (t a) (t b) (t c) RA RB RC X)
theorem Xe{P:Program}{id:Nat}{ops:Array Oper}{Q:Exit->Act->World->Prop}{a0:Act}{W:World}(hm:P.follows .mixedOrders=true)(n a b c:Nat)(hlt:(a<b/\b<c)/\c<n)(wca:Cf ops c a)(wcb:Cf ops c b)(mk:(Nat->Value)->Array Value)(t0:Nat->Value)(PV:Nat->Value->Prop)(RA RB RC:Value->World->Prop)(Fin:Act->World->Prop)(hn:ops.size=n+1)(hord:((List.range ops.size).all λi=>match ops[i]? with|some o=>o.after.all (λe=>decide (e.on<i))|none=>true)=true)(hanc:((List.range n).all λj=>(List.range (n+1)).any λk=>match ops[k]? with|some o=>decide (j<k)&&o.after.any (λe=>Region.binds .any e&&e.on==j)|none=>false)=true)(gA:∀v X Y,RA v X->Below X.1.size X Y->RA v Y)(gB:∀v X Y,RB v X->Below X.1.size X Y->RB v Y)(gC:∀v X Y,RC v X->Below X.1.size X Y->RC v Y)(bA:∀g n k X,RA (.l (some ⟨g,0,none⟩) n k) X->0<k->g<X.1.size)(bB:∀h m X,RB (.l (some ⟨h,0,none⟩) m m) X->h<X.1.size)(h0:a0=⟨mk t0,[]⟩)(sp:∀i,i<n->i≠a->i≠b->i≠c->∀(t:Nat->Value) X K,Below W.1.size W X->(∀j,Cf ops i j->PV j (t j))->(∀v Y,PV i v->Below X.1.size X Y->K ⟨mk (AN t i v),[]⟩ Y)->wpOp P ops Q i K ⟨mk t,[]⟩ X)(sa:∀(t:Nat->Value) X K,Below W.1.size W X->(∀j,Cf ops a j->PV j (t j))->(∀v Y,PV a v->RA v Y->(∀g n k,v=.l (some ⟨g,0,none⟩) n k->0<k->X.1.size<=g)->Below X.1.size X Y->K ⟨mk (AN t a v),[]⟩ Y)->wpOp P ops Q a K ⟨mk t,[]⟩ X)(sb:∀(t:Nat->Value) X K,Below W.1.size W X->(∀j,Cf ops b j->PV j (t j))->(∀v Y,PV b v->RB v Y->(∀h m,v=.l (some ⟨h,0,none⟩) m m->X.1.size<=h)->Below X.1.size X Y->K ⟨mk (AN t b v),[]⟩ Y)->wpOp P ops Q b K ⟨mk t,[]⟩ X)(sc:∀(t:Nat->Value) X K,Below W.1.size W X->(∀j,Cf ops c j->PV j (t j))->RA (t a) X->RB (t b) X->(∀g h n k m,t a=.l (some ⟨g,0,none⟩) n k->0<k->t b=.l (some ⟨h,0,none⟩) m m->g≠h)->(∀v Y,PV c v->RC v Y->Below W.1.size X Y->K ⟨mk (AN t c v),[]⟩ Y)->wpOp P ops Q c K ⟨mk t,[]⟩ X)(sl:∀(t:Nat->Value) X K,Below W.1.size W X->(∀j,j<n->PV j (t j))->RC (t c) X->(∀ac Y,Fin ac Y->K ac Y)->wpOp P ops Q n K ⟨mk t,[]⟩ X)(hfin:∀ac X,Fin ac X->Q .normal ac X):(Code.region id ops true).wp P Q a0 W:=by
 have hdep:∀i j,i<n+1->Cf ops i j->j<i:=by rintro i j hi ⟨o,ho,e,he,_,rfl⟩;have h1:=Bt.1 hord i (Bc.2 Zb);rw[ho]at h1;exact of_decide_eq_true (A9.1 h1 e he)
 refine CA hm (oG n a b c ops mk W PV RA RB RC Fin) ?_ ?_ ?_ ?_
 .have hz:∀i,(Array.replicate ops.size false).getD i false=false:=λi=>by simp[Array.getD]
  refine⟨by simp[hn],λi j _ h=>?_,λh=>?_,λ_=>⟨t0,h0,(Al _ _).drew,λi _ h=>?_,?_⟩⟩;.rw[hz]at h;cases h
  .rw[hz]at h;cases h
  .rw[hz]at h;cases h
  .simp only[hz];exact⟨λh=>KW,λh=>KW,λh=>KW,λh=>KW⟩
 .rintro l ac X ⟨hs,_⟩;rw[hs,hn]
 .rintro l ac X ⟨hs,_,h6,_⟩ hr;have AL:=CC hord (by rw[hs,hn]) hr;exact hfin ac X (h6 (AL n Zb)).2
 .rintro l ac X i ⟨hs,hcl,h6,hg⟩ hr;obtain⟨hu,o,ho,hall⟩:=mem_ready.1 hr;have di:∀j,Cf ops i j->l.getD j false=true:=by
   rintro j ⟨o',ho',e,he,hb,rfl⟩;rw[ho]at ho';obtain rfl:o=o':=by simpa using ho'
   exact hall e he hb
  have hi7:i<n+1:=by
   rcases At i (n+1)with h|h;.exact h
   .rw[AP Zb]at ho;cases ho
  have hui:l.getD i false=false:=by have:l.getD i true=false:=hu;simpa[Array.getD,hs,hi7]using this
  have l6:l.getD n false=false:=by cases h:l.getD n false with
   |false=>rfl
   |true=>rw[(h6 h).1 i hi7]at hui;cases hui
  obtain⟨t,rfl,hb,gg,S⟩:=hg l6;have kp:∀j,¬j=i->(l.setIfInBounds i true).getD j false=l.getD j false:=λj hj=>by rw[BM Zb,if_neg hj]
  have ki:(l.setIfInBounds i true).getD i false=true:=by rw[BM Zb,if_pos rfl]
  have hs':(l.setIfInBounds i true).size=n+1:=by simp[hs]
  have ku:∀j,l.getD j false=true->(l.setIfInBounds i true).getD j false=true:=λj h=>by
   by_cases e:j=i;.subst e;exact ki
   .rw[kp j e];exact h
  have hcl':∀p j,Cf ops p j->(l.setIfInBounds i true).getD p false=true->(l.setIfInBounds i true).getD j false=true:=λp j hj h=>by
   by_cases e:p=i;.subst e;exact ku j (di j hj)
   .rw[kp p e]at h;exact ku j (hcl p j hj h)
  have dpv:∀j,Cf ops i j->PV j (t j):=λj hj=>gg j (by have:=hdep i j hi7 hj;omega) (di j hj);have notc:l.getD a false=false\/l.getD b false=false->l.getD c false=false:=λh=>by cases hc:l.getD c false with
   |false=>rfl
   |true=>
    have h1:=hcl c a wca hc;have h2:=hcl c b wcb hc;rcases h with h|h;.rw[h]at h1;cases h1
    .rw[h]at h2;cases h2
  by_cases hin:i=n
  .subst hin;have al:=λj hj=>PI (f:=λj=>l.getD j false=true) hanc hcl di i j Zb hj;clear hr hu ho h6 hg;refine sl t X _ hb (λj hj=>gg j hj (al j hj)) (S.rc (al c hlt.2)) (λac Y hY=>⟨hs',hcl',λ_=>⟨λj hj=>?_,hY⟩,λh=>?_⟩)
   .by_cases e:j=i;.subst e;exact ki
    .exact ku j (al j Zb)
   .rw[ki]at h;cases h
  have hno:(l.setIfInBounds i true).getD n false=false:=by rw[kp n (λe=>hin e.symm)];exact l6
  have pv':∀v,PV i v->∀j,j<n->(l.setIfInBounds i true).getD j false=true->PV j (AN t i v j):=λv hv j j1 h=>by
   by_cases e:j=i;.subst e;rw[BE];exact hv
   .rw[kp j e]at h;rw[BO e];exact gg j j1 h
  have noN:∀{p:Prop},(l.setIfInBounds i true).getD n false=true->p:=λh=>by rw[hno]at h;cases h
  clear hr hu ho h6 hg;by_cases ea:i=a
  .subst ea;have hc0:=notc (AO hui);refine sa t X _ hb dpv (λv Y hpv hra hnew hY=>⟨hs',hcl',λh=>noN h,λ_=>⟨AN t i v,rfl,hb.trans (hY.mono hb.size),pv' v hpv,?_⟩⟩);rw[ki,kp b Zb,kp c Zb,BE,BO (show¬b=i by omega),BO (show¬c=i by omega)];exact⟨λ_ _=>hra,λh1 h2=>gB _ _ _ (S.rb h1 h2) hY,λ_ h1 h2 g h n k m e1 hk e2=>by have h3:=hnew g n k e1 hk;have h4:=S.rb h1 h2;rw[e2]at h4;have:=bB h m X h4;omega,λh=>(by rw[hc0]at h;cases h)⟩
  by_cases eb:i=b
  .subst eb;have hc0:=notc (AD hui);refine sb t X _ hb dpv (λv Y hpv hrb hnew hY=>⟨hs',hcl',λh=>noN h,λ_=>⟨AN t i v,rfl,hb.trans (hY.mono hb.size),pv' v hpv,?_⟩⟩);rw[ki,kp a Zb,kp c Zb,BE,BO (show¬a=i by omega),BO (show¬c=i by omega)];exact⟨λh1 h2=>gA _ _ _ (S.ra h1 h2) hY,λ_ _=>hrb,λh1 _ h2 g h n k m e1 hk e2=>by have h3:=hnew h m e2;have h4:=S.ra h1 h2;rw[e1]at h4;have:=bA g n k X h4 hk;omega,λh=>(by rw[hc0]at h;cases h)⟩
  by_cases ec:i=c
  .subst ec;have la:=di a wca;have lb:=di b wcb;refine sc t X _ hb dpv (S.ra la hui) (S.rb lb hui) (λg h n k m e1 hk e2=>S.sep la lb hui g h n k m e1 hk e2) (λv Y hpv hrc hY=>⟨hs',hcl',λh=>noN h,λ_=>⟨AN t i v,rfl,hb.trans hY,pv' v hpv,?_⟩⟩);rw[ki,kp a Zb,kp b Zb,BE,BO (show¬a=i by omega),BO (show¬b=i by omega)];exact⟨λ_ h=>KW,λ_ h=>KW,λ_ _ h=>KW,λ_=>hrc⟩
  .refine sp i Zb ea eb ec t X _ hb dpv (λv Y hpv hY=>⟨hs',hcl',λh=>noN h,λ_=>⟨AN t i v,rfl,hb.trans (hY.mono hb.size),pv' v hpv,?_⟩⟩);rw[kp a (λe=>ea e.symm),kp b (λe=>eb e.symm),kp c (λe=>ec e.symm),BO (λe=>ea e.symm),BO (λe=>eb e.symm),BO (λe=>ec e.symm)];exact⟨λh1 h2=>gA _ _ _ (S.ra h1 h2) hY,λh1 h2=>gB _ _ _ (S.rb h1 h2) hY,S.sep,λh1=>gC _ _ _ (S.rc h1) hY⟩
end Go.Proofs.YtofencldleijcaaGreat
