import Derived.Test.YtllmmkchokkaaaaGreatDoorPk08
import Derived.Test.YtllmmkchokkaaaaGreatDoorPk13
import Derived.Shelf.Spec.SlicesGrow
import Derived.Laws.AppendOwnNone
set_option maxRecDepth 100000
set_option maxHeartbeats 4000000
namespace Go.Proofs.YtllmmkchokkaaaaGreatDoor
open Go.RowKit Go.Proofs.Tryz
def AF (t:Nat->Value)(i:Nat)(v:Value):Nat->Value:=λj=>bif j==i then v else t j
theorem AK{t:Nat->Value}{i j:Nat}{v:Value}(h:¬j=i):AF t i v j=t j:=by
 have:(j==i)=false:=by simpa using h
 simp[AF,this]
theorem Ce{t:Nat->Value}{i:Nat}{v:Value}:AF t i v i=v:=by simp[AF]
def BU (ops:Array Oper)(i j:Nat):Prop:=∃o,ops[i]?=some o/\∃e∈o.after,Region.binds .any e=true/\e.on=j
theorem AX{ops:Array Oper}{i j:Nat}(h:(match ops[i]? with|some o=>o.after.toList.any (λe=>Region.binds .any e&&e.on==j)|none=>false)=true):BU ops i j:=by cases ho:ops[i]? with
 |none=>rw[ho]at h;cases h
 |some o=>rw[ho]at h;obtain⟨e,he,h2⟩:=List.any_eq_true.1 h;simp only[AG,beq_iff_eq]at h2;exact⟨o,ho,e,by simpa using he,h2.1,h2.2⟩
theorem sg{P:Prop}(h:P:=by have h:=hK _ X rfl BF;refine Am rfl rfl ?_;clear hK hg;go_simp;first|simpa[AF,ea,eb,ec,ed,ee]using h|simpa[AF,ea,eb,ec,ed]using h|simpa[AF,ea,eb,ec]using h|simpa[AF,ea,eb]using h|simpa[AF,ea]using h|simpa[AF]using h):P:=h
def RG (n:Nat)(mk:(Nat->Value)->Array Value)(W:World)(G:Nat->Value->World->Prop)(Fin:Act->World->Prop)(l:Array Bool)(a:Act)(X:World):Prop:=l.size=n+1/\((l.getD n false=true->(∀i,i<n+1->l.getD i false=true)/\Fin a X)/\(l.getD n false=false->∃t:Nat->Value,a=⟨mk t,[]⟩/\Below W.1.size W X/\∀i,i<n->l.getD i false=true->G i (t i) X))
theorem VA{P:Prop}(h:P:=by
  rintro j ⟨o',ho',e,he,hb,rfl⟩;rw[ho]at ho';obtain rfl:o=o':=by simpa using ho'
  exact hall e he hb):P:=h
theorem Et{P:Program}{id:Nat}{ops:Array Oper}{Q:Exit->Act->World->Prop}{a0:Act}{W:World}(hm:P.follows .mixedOrders=true)(n:Nat)(mk:(Nat->Value)->Array Value)(t0:Nat->Value)(G:Nat->Value->World->Prop)(Fin:Act->World->Prop)(hn:ops.size=n+1)(hord:((List.range ops.size).all λi=>match ops[i]? with|some o=>o.after.all (λe=>decide (e.on<i))|none=>true)=true)(hlast:((List.range n).all λj=>match ops[n]? with|some o=>o.after.any (λe=>Region.binds .any e&&e.on==j)|none=>false)=true)(st:∀i v X Y,i<n->G i v X->Below X.1.size X Y->G i v Y)(h0:a0=⟨mk t0,[]⟩)(sg:∀i,i<n->∀(t:Nat->Value) X K,Below W.1.size W X->(∀j,BU ops i j->G j (t j) X)->(∀v Y,G i v Y->Below X.1.size X Y->K ⟨mk (AF t i v),[]⟩ Y)->wpOp P ops Q i K ⟨mk t,[]⟩ X)(sl:∀(t:Nat->Value) X K,Below W.1.size W X->(∀j,j<n->G j (t j) X)->(∀a Y,Fin a Y->K a Y)->wpOp P ops Q n K ⟨mk t,[]⟩ X)(hfin:∀a X,Fin a X->Q .normal a X):(Code.region id ops true).wp P Q a0 W:=by
 have hdep:∀i j,i<n+1->BU ops i j->j<n:=by rintro i j hi ⟨o,ho,e,he,_,rfl⟩;have h1:=BO.1 hord i (Dq.2 Za);rw[ho]at h1;have h2:=Bn.1 h1 e he;have:=of_decide_eq_true h2;omega
 refine DV hm (RG n mk W G Fin) ?_ ?_ ?_ ?_
 .have hz:∀i,(Array.replicate ops.size false).getD i false=false:=λi=>by simp[Array.getD]
  refine⟨by simp[hn],λh=>?_,λ_=>⟨t0,h0,(Ak _ _).drew,λi _ h=>?_⟩⟩<;>(rw[hz]at h;cases h)
 .rintro l a X ⟨hs,_⟩;rw[hs,hn]
 .rintro l a X ⟨hs,h6,_⟩ hr;have AL:=Gv hord (by rw[hs,hn]) hr;exact hfin a X (h6 (AL n Za)).2
 .rintro l a X i ⟨hs,h6,hg⟩ hr;obtain⟨hu,o,ho,hall⟩:=mem_ready.1 hr;have di:∀j,BU ops i j->l.getD j false=true:=by exact VA
  have hi7:i<n+1:=by
   rcases As i (n+1)with h|h;.exact h
   .rw[Cs Za]at ho;cases ho
  have hui:l.getD i false=false:=by have:l.getD i true=false:=hu;simpa[Array.getD,hs,hi7]using this
  have l6:l.getD n false=false:=by cases h:l.getD n false with
   |false=>rfl
   |true=>rw[(h6 h).1 i hi7]at hui;cases hui
  obtain⟨t,rfl,hb,gg⟩:=hg l6;have kp:∀j,¬j=i->(l.setIfInBounds i true).getD j false=l.getD j false:=λj hj=>by rw[Dr Za,if_neg hj]
  have ki:(l.setIfInBounds i true).getD i false=true:=by rw[Dr Za,if_pos rfl]
  have hs':(l.setIfInBounds i true).size=n+1:=by simp[hs]
  have ku:∀j,l.getD j false=true->(l.setIfInBounds i true).getD j false=true:=λj h=>by
   by_cases e:j=i;.subst e;exact ki
   .rw[kp j e];exact h
  by_cases hin:i=n
  .subst hin;have al:∀j,j<i->l.getD j false=true:=λj hj=>by have h1:=BO.1 hlast j (Dq.2 hj);rw[ho]at h1;obtain⟨k,hk,h2⟩:=Array.any_eq_true.1 h1;simp only[AG,beq_iff_eq]at h2;exact di j ⟨o,ho,o.after[k],Array.getElem_mem hk,h2.1,h2.2⟩
   clear hr hu ho h6 hg;refine sl t X _ hb (λj hj=>gg j hj (al j hj)) (λa Y hY=>⟨hs',λ_=>⟨λj hj=>?_,hY⟩,λh=>?_⟩)
   .by_cases e:j=i;.subst e;exact ki
    .exact ku j (al j Za)
   .rw[ki]at h;cases h
  .clear hr hu ho h6 hg;have hno:(l.setIfInBounds i true).getD n false=false:=by rw[kp n (λe=>hin e.symm)];exact l6
   refine sg i Za t X _ hb (λj hj=>gg j (hdep i j hi7 hj) (di j hj)) (λv Y hv hY=>⟨hs',λh=>?_,λ_=>⟨AF t i v,rfl,hb.trans (hY.mono hb.size),λj j1 h=>?_⟩⟩);.rw[hno]at h;cases h
   .by_cases e:j=i;.subst e;rw[Ce];exact hv
    .rw[kp j e]at h;rw[AK e];exact st _ _ _ _ j1 (gg j j1 h) hY
def RK (n:Nat)(ops:Array Oper)(mk:(Nat->Value)->Array Value)(W:World)(G:Nat->Value->World->Prop)(Fin1 Fin:Act->World->Prop)(l:Array Bool)(a:Act)(X:World):Prop:=l.size=n+2/\(∀i j,BU ops i j->l.getD i false=true->l.getD j false=true)/\(l.getD (n+1) false=true->(∀i,i<n+2->l.getD i false=true)/\Fin a X)/\(l.getD (n+1) false=false->l.getD n false=true->(∀i,i<n+1->l.getD i false=true)/\Fin1 a X)/\(l.getD (n+1) false=false->l.getD n false=false->∃t:Nat->Value,a=⟨mk t,[]⟩/\Below W.1.size W X/\∀i,i<n->l.getD i false=true->G i (t i) X)
theorem OT{ops:Array Oper}{n:Nat}(hanc:((List.range n).all λj=>(List.range (n+1)).any λk=>match ops[k]? with|some o=>decide (j<k)&&o.after.any (λe=>Region.binds .any e&&e.on==j)|none=>false)=true){f:Nat->Prop}(hcl:∀i j,BU ops i j->f i->f j)(hn:∀j,BU ops n j->f j):∀m j,n<=j+m->j<n->f j
 |0,j,h,hj=>by omega
 |m+1,j,h,hj=>by have h1:=BO.1 hanc j (Dq.2 hj);obtain⟨k,hk,h2⟩:=List.any_eq_true.1 h1;have hk':=Dq.1 hk;cases ho:ops[k]? with
  |none=>rw[ho]at h2;cases h2
  |some o=>
   rw[ho]at h2;simp only[AG,decide_eq_true_eq]at h2;obtain⟨q,hq,h3⟩:=Array.any_eq_true.1 h2.2;simp only[AG,beq_iff_eq]at h3;have hw:BU ops k j:=⟨o,ho,o.after[q],Array.getElem_mem hq,h3.1,h3.2⟩;by_cases hkn:k=n;.subst hkn;exact hn j hw
   .exact hcl k j hw (OT hanc hcl hn m k Za Za)
def RJ (n:Nat)(ops:Array Oper)(mk:(Nat->Value)->Array Value)(W:World)(G:Nat->Value->World->Prop)(Fin:Act->World->Prop)(l:Array Bool)(a:Act)(X:World):Prop:=l.size=n+1/\(∀i j,BU ops i j->l.getD i false=true->l.getD j false=true)/\(l.getD n false=true->(∀i,i<n+1->l.getD i false=true)/\Fin a X)/\(l.getD n false=false->∃t:Nat->Value,a=⟨mk t,[]⟩/\Below W.1.size W X/\∀i,i<n->l.getD i false=true->G i (t i) X)
theorem Mq{P:Program}{id:Nat}{ops:Array Oper}{Q:Exit->Act->World->Prop}{a0:Act}{W:World}(hm:P.follows .mixedOrders=true)(n:Nat)(mk:(Nat->Value)->Array Value)(t0:Nat->Value)(G:Nat->Value->World->Prop)(Fin:Act->World->Prop)(hn:ops.size=n+1)(hord:((List.range ops.size).all λi=>match ops[i]? with|some o=>o.after.all (λe=>decide (e.on<i))|none=>true)=true)(hanc:((List.range n).all λj=>(List.range (n+1)).any λk=>match ops[k]? with|some o=>decide (j<k)&&o.after.any (λe=>Region.binds .any e&&e.on==j)|none=>false)=true)(st:∀i v X Y,i<n->G i v X->Below X.1.size X Y->G i v Y)(h0:a0=⟨mk t0,[]⟩)(sg:∀i,i<n->∀(t:Nat->Value) X K,Below W.1.size W X->(∀j,BU ops i j->G j (t j) X)->(∀v Y,G i v Y->Below X.1.size X Y->K ⟨mk (AF t i v),[]⟩ Y)->wpOp P ops Q i K ⟨mk t,[]⟩ X)(sl:∀(t:Nat->Value) X K,Below W.1.size W X->(∀j,j<n->G j (t j) X)->(∀a Y,Fin a Y->K a Y)->wpOp P ops Q n K ⟨mk t,[]⟩ X)(hfin:∀a X,Fin a X->Q .normal a X):(Code.region id ops true).wp P Q a0 W:=by
 have hdep:∀i j,i<n+1->BU ops i j->j<i:=by rintro i j hi ⟨o,ho,e,he,_,rfl⟩;have h1:=BO.1 hord i (Dq.2 Za);rw[ho]at h1;exact of_decide_eq_true (Bn.1 h1 e he)
 refine DV hm (RJ n ops mk W G Fin) ?_ ?_ ?_ ?_
 .have hz:∀i,(Array.replicate ops.size false).getD i false=false:=λi=>by simp[Array.getD]
  refine⟨by simp[hn],λi j _ h=>?_,λh=>?_,λ_=>⟨t0,h0,(Ak _ _).drew,λi _ h=>?_⟩⟩<;>(rw[hz]at h;cases h)
 .rintro l a X ⟨hs,_⟩;rw[hs,hn]
 .rintro l a X ⟨hs,_,h6,_⟩ hr;have AL:=Gv hord (by rw[hs,hn]) hr;exact hfin a X (h6 (AL n Za)).2
 .rintro l a X i ⟨hs,hcl,h6,hg⟩ hr;obtain⟨hu,o,ho,hall⟩:=mem_ready.1 hr;have di:∀j,BU ops i j->l.getD j false=true:=by exact VA
  have hi7:i<n+1:=by
   rcases As i (n+1)with h|h;.exact h
   .rw[Cs Za]at ho;cases ho
  have hui:l.getD i false=false:=by have:l.getD i true=false:=hu;simpa[Array.getD,hs,hi7]using this
  have l6:l.getD n false=false:=by cases h:l.getD n false with
   |false=>rfl
   |true=>rw[(h6 h).1 i hi7]at hui;cases hui
  obtain⟨t,rfl,hb,gg⟩:=hg l6;have kp:∀j,¬j=i->(l.setIfInBounds i true).getD j false=l.getD j false:=λj hj=>by rw[Dr Za,if_neg hj]
  have ki:(l.setIfInBounds i true).getD i false=true:=by rw[Dr Za,if_pos rfl]
  have hs':(l.setIfInBounds i true).size=n+1:=by simp[hs]
  have ku:∀j,l.getD j false=true->(l.setIfInBounds i true).getD j false=true:=λj h=>by
   by_cases e:j=i;.subst e;exact ki
   .rw[kp j e];exact h
  have hcl':∀p j,BU ops p j->(l.setIfInBounds i true).getD p false=true->(l.setIfInBounds i true).getD j false=true:=λp j hj h=>by
   by_cases e:p=i;.subst e;exact ku j (di j hj)
   .rw[kp p e]at h;exact ku j (hcl p j hj h)
  by_cases hin:i=n
  .subst hin;have al:=λj hj=>OT (f:=λj=>l.getD j false=true) hanc hcl di i j Za hj;clear hr hu ho h6 hg;refine sl t X _ hb (λj hj=>gg j hj (al j hj)) (λa Y hY=>⟨hs',hcl',λ_=>⟨λj hj=>?_,hY⟩,λh=>?_⟩)
   .by_cases e:j=i;.subst e;exact ki
    .exact ku j (al j Za)
   .rw[ki]at h;cases h
  .clear hr hu ho h6 hg;have hno:(l.setIfInBounds i true).getD n false=false:=by rw[kp n (λe=>hin e.symm)];exact l6
   refine sg i Za t X _ hb (λj hj=>gg j (by have:=hdep i j hi7 hj;omega) (di j hj)) (λv Y hv hY=>⟨hs',hcl',λh=>?_,λ_=>⟨AF t i v,rfl,hb.trans (hY.mono hb.size),λj j1 h=>?_⟩⟩);.rw[hno]at h;cases h
   .by_cases e:j=i;.subst e;rw[Ce];exact hv
    .rw[kp j e]at h;rw[AK e];exact st _ _ _ _ j1 (gg j j1 h) hY
end Go.Proofs.YtllmmkchokkaaaaGreatDoor
namespace Go.Proofs.YtllmmkchokkaaaaGreatDoor
open Go.RowKit Go.Proofs.Tryz
theorem SP{ops:Array Oper}{l:Array Bool}(hord:((List.range ops.size).all λi=>match ops[i]? with|some o=>o.after.all (λe=>!(Region.binds .any e)||decide (e.on<i))|none=>true)=true)(hs:l.size=ops.size)(hr:Region.ready .any ops l=[]):∀i,i<ops.size->l.getD i false=true:=by
 have conv:∀i,i<ops.size->l.getD i true=l.getD i false:=λi hi=>by simp[Array.getD,hs,hi]
 intro i;induction i using Nat.strongRecOn with
 |_ i ih=>intro hi;cases hg:l.getD i false with
  |true=>rfl
  |false=>
   have hm:i∈Region.ready .any ops l:=by
    rw[mem_ready];refine⟨(conv i hi).trans hg,ops[i],by simp[hi],λe he hbd=>?_⟩;have h1:=BO.1 hord i (by simpa using hi);simp only[MZ hi]at h1;have h2:=(Bn.1 h1) e he;rw[hbd]at h2;have h3:e.on<i:=by simpa using h2
    exact ih e.on h3 Za
   rw[hr]at hm;cases hm
theorem Mw{P:Program}{id:Nat}{ops:Array Oper}{Q:Exit->Act->World->Prop}{a0:Act}{W:World}(hm:P.follows .mixedOrders=true)(n:Nat)(mk:(Nat->Value)->Array Value)(t0:Nat->Value)(I:(Nat->Bool)->(Nat->Value)->World->Prop)(hn:ops.size=n)(hord:((List.range ops.size).all λi=>match ops[i]? with|some o=>o.after.all (λe=>!(Region.binds .any e)||decide (e.on<i))|none=>true)=true)(h0:a0=⟨mk t0,[]⟩)(hI:∀f:Nat->Bool,(∀i,f i=false)->I f t0 W.drew)(sg:∀i,i<n->∀(f:Nat->Bool)(t:Nat->Value) X K,I f t X->f i=false->(∀j,BU ops i j->f j=true)->(∀p j,BU ops p j->f p=true->f j=true)->(∀v Y,(∀g:Nat->Bool,g i=true->(∀j,¬j=i->g j=f j)->I g (AF t i v) Y)->K ⟨mk (AF t i v),[]⟩ Y)->wpOp P ops Q i K ⟨mk t,[]⟩ X)(hfin:∀(f:Nat->Bool) t X,(∀i,i<n->f i=true)->I f t X->Q .normal ⟨mk t,[]⟩ X):(Code.region id ops true).wp P Q a0 W:=by
 refine DV hm (λl a X=>l.size=n/\(∀p j,BU ops p j->l.getD p false=true->l.getD j false=true)/\∃t,a=⟨mk t,[]⟩/\I (λi=>l.getD i false) t X) ?_ ?_ ?_ ?_
 .have hz:∀i,(Array.replicate ops.size false).getD i false=false:=λi=>by simp[Array.getD]
  exact⟨by simp[hn],λp j _ h=>(by rw[hz]at h;cases h),t0,h0,hI _ hz⟩
 .rintro l a X ⟨hs,_⟩;rw[hs,hn]
 .rintro l a X ⟨hs,_,t,rfl,h⟩ hr;exact hfin _ t X (λi hi=>SP hord (by rw[hs,hn]) hr i Za) h
 .rintro l a X i ⟨hs,hcl,t,rfl,h⟩ hr;obtain⟨hu,o,ho,hall⟩:=mem_ready.1 hr;have di:∀j,BU ops i j->l.getD j false=true:=by exact VA
  have hi7:i<n:=by
   rcases As i n with h|h;.exact h
   .rw[Cs Za]at ho;cases ho
  have hui:l.getD i false=false:=by have:l.getD i true=false:=hu;simpa[Array.getD,hs,hi7]using this
  have ki:(l.setIfInBounds i true).getD i false=true:=by rw[Dr Za,if_pos rfl]
  have kp:∀j,¬j=i->(l.setIfInBounds i true).getD j false=l.getD j false:=λj hj=>by rw[Dr Za,if_neg hj]
  have ku:∀j,l.getD j false=true->(l.setIfInBounds i true).getD j false=true:=λj h=>by
   by_cases e:j=i;.subst e;exact ki
   .rw[kp j e];exact h
  refine sg i hi7 _ t X _ h hui di hcl (λv Y hY=>⟨by simp[hs],λp j hj h=>?_,AF t i v,rfl,hY _ ki kp⟩);by_cases e:p=i;.subst e;exact ku j (di j hj)
  .rw[kp p e]at h;exact ku j (hcl p j hj h)
theorem Wm{P:Program}{id:Nat}{ops:Array Oper}{Q:Exit->Act->World->Prop}{a0:Act}{W:World}(hm:P.follows .mixedOrders=true)(n:Nat)(mk:(Nat->Value)->Array Value)(t0:Nat->Value)(I:(Nat->Bool)->(Nat->Value)->World->Prop)(hn:ops.size=n)(hord:((List.range ops.size).all λi=>match ops[i]? with|some o=>o.after.all (λe=>!(Region.binds .any e)||decide (e.on<i))|none=>true)=true)(h0:a0=⟨mk t0,[]⟩)(hI:∀f:Nat->Bool,(∀i,f i=false)->I f t0 W.drew)(sg:∀i,i<n->∀(f:Nat->Bool)(t:Nat->Value) X K,I f t X->f i=false->(∀j,BU ops i j->f j=true)->(∀v Y,(∀g:Nat->Bool,g i=true->(∀j,¬j=i->g j=f j)->I g (AF t i v) Y)->K ⟨mk (AF t i v),[]⟩ Y)->wpOp P ops Q i K ⟨mk t,[]⟩ X)(hfin:∀(f:Nat->Bool) t X,(∀i,i<n->f i=true)->I f t X->Q .normal ⟨mk t,[]⟩ X):(Code.region id ops true).wp P Q a0 W:=Mw hm n mk t0 I hn hord h0 hI (λi hi f t X K h1 h2 h3 _ h5=>sg i hi f t X K h1 h2 h3 h5) hfin
theorem OH{P:Program}{id:Nat}{ops:Array Oper}{Q:Exit->Act->World->Prop}{a0:Act}{W:World}(hm:P.follows .mixedOrders=true)(n:Nat)(mk:(Nat->Value)->Array Value)(t0:Nat->Value)(G:Nat->Value->World->Prop)(hn:ops.size=n)(hord:((List.range ops.size).all λi=>match ops[i]? with|some o=>o.after.all (λe=>!(Region.binds .any e)||decide (e.on<i))|none=>true)=true)(st:∀i v X Y,i<n->G i v X->Below X.1.size X Y->G i v Y)(h0:a0=⟨mk t0,[]⟩)(sg:∀i,i<n->∀(t:Nat->Value) X K,Below W.1.size W X->(∀j,BU ops i j->G j (t j) X)->(∀v Y,G i v Y->Below X.1.size X Y->K ⟨mk (AF t i v),[]⟩ Y)->wpOp P ops Q i K ⟨mk t,[]⟩ X)(hfin:∀t X,Below W.1.size W X->(∀j,j<n->G j (t j) X)->Q .normal ⟨mk t,[]⟩ X):(Code.region id ops true).wp P Q a0 W:=by
 refine Wm hm n mk t0 (λf t X=>Below W.1.size W X/\∀i,i<n->f i=true->G i (t i) X) hn hord h0 ?_ ?_ ?_;.intro f hf;exact⟨(Ak _ _).drew,λi _ h=>by rw[hf]at h;cases h⟩
 .rintro i hi f t X K ⟨hb,hG⟩ hfi hw hK;refine sg i hi t X K hb (λj hj=>hG j ?_ (hw j hj)) (λv Y hv hbY=>hK v Y (λg hgi hgj=>⟨hb.trans (hbY.mono hb.size),λj hj h=>?_⟩))
  .obtain⟨o,ho,e,he,hbd,rfl⟩:=hj;have h1:=BO.1 hord i (by rw[hn];simpa using hi);simp only[ho]at h1;have h2:=(Bn.1 h1) e he;rw[hbd]at h2;have h3:e.on<i:=by simpa using h2
   omega
  .by_cases e:j=i;.subst e;rw[Ce];exact hv
   .rw[AK e];rw[hgj j e]at h;exact st j _ X Y hj (hG j hj h) hbY
 .rintro f t X hf ⟨hb,hG⟩;exact hfin t X hb (λj hj=>hG j hj (hf j hj))
end Go.Proofs.YtllmmkchokkaaaaGreatDoor
namespace Go.Proofs.YtllmmkchokkaaaaGreatDoor
open Go.RowKit Go.Maps Go.Proofs.Tryz
theorem DD{P:Program}{w w':World}{ops:Array Oper}{rest:List Oper}{o:Oper}{a:Act}{Q:Exit->Act->World->Prop}(hgd:o.guard=none)(s x:Operand)(t t':TypeId)(ho:o.op=.call {callee:=.builtin .append,args:=#[s,x],argTypes:=#[t,t']})(u u' v:Value)(hs:a.eval s=u)(hx:a.eval x=u')(hrun:(Builtin.append_ #[t,t'] o.type #[u,u']).run P w=.ok v w')(h:wpList P ops Q rest (a.put o.dst v) w'):wpList P ops Q (o::rest) a w:=by refine wpList_plain hgd λK hK=>?_;unfold Oper.wp;simp[execOp,ho,resolve,invoke,builtin,hs,hx,hrun,Result.andThen];exact hK _ _ h
def DN (f:Nat->List Value):Nat->List Value|0=>[]|k+1=>DN f k++f k
structure lJ (w:World)(z q:Nat)(A:Nat->Option Addr)(M C:Nat->Nat)(news:Nat->List Value):Prop where
 len:∀j,j<q->(news j).length=M j*z
 one:∀j,j<q->∀u∈news j,u.oneCell'=true
 src:∀j,j<q->(A j=none/\M j=0/\C j=0)\/∃b off,A j=some ⟨b,off,none⟩/\b<w.1.size/\∀t u,(news j)[t]?=some u->w.cell? ⟨b,off+t,none⟩=some u
theorem ZP (f:Nat->List Value):DN f 2=f 0++f 1:=by simp[DN]
theorem VV (f:Nat->List Value):DN f 3=f 0++f 1++f 2:=by simp[DN]
theorem lX (f:Nat->Nat):AN f 2=f 0+f 1:=by simp[AN]
theorem fN (f:Nat->Nat):AN f 3=f 0+f 1+f 2:=by simp[AN]
structure DT (w:World)(z:Nat)(ad:OA)(b off n cap:Nat)(cs:List Value):Prop where
 len:cs.length=n*z
 one:∀u∈cs,u.oneCell'=true
 src:(ad=none/\n=0/\cap=0)\/(ad=some ⟨b,off,none⟩/\n<=cap/\b<w.1.size/\∀t u,cs[t]?=some u->w.cell? ⟨b,off+t,none⟩=some u)
theorem DT.grow{w w':World}{z:Nat}{ad:OA}{b off n cap:Nat}{cs:List Value}(h:DT w z ad b off n cap cs)(hb:Below w.1.size w w'):DT w' z ad b off n cap cs:=⟨h.len,h.one,by
  rcases h.src with h1|⟨h1,h2,h3,h4⟩;.exact AD h1
  .exact Ax ⟨h1,h2,Aa h3 hb.size,λt u hu=>(hb.cell (p:=⟨b,off+t,none⟩) h3).trans (h4 t u hu)⟩⟩
def Is (ad:OA)(b off cap k z:Nat):Option Addr:=if cap=k then ad else some ⟨b,off+k*z,none⟩
theorem DT.take{w:World}{z:Nat}{ad:OA}{b off n cap:Nat}{cs:List Value}(h:DT w z ad b off n cap cs){k:Nat}(hk:k<=n):(cs.take (k*z)).length=k*z/\(∀u∈cs.take (k*z),u.oneCell'=true)/\((ad=none/\k=0/\cap=0)\/∃b off,ad=some ⟨b,off,none⟩/\b<w.1.size/\∀t u,(cs.take (k*z))[t]?=some u->w.cell? ⟨b,off+t,none⟩=some u):=by
 have hm:k*z<=n*z:=CQ z hk;refine⟨by rw[Db,h.len,Nat.min_eq_left hm],λu hu=>h.one u (Kb hu),?_⟩;rcases h.src with⟨h1,h2,h3⟩|⟨h1,h2,h3,h4⟩;.exact AD ⟨h1,Za,h3⟩
 .refine Ax ⟨b,off,h1,h3,λt u hu=>h4 t u ?_⟩;rw[List.getElem?_take]at hu;split at hu;.exact hu
  .cases hu
theorem DT.drop{w:World}{z:Nat}{ad:OA}{b off n cap:Nat}{cs:List Value}(h:DT w z ad b off n cap cs){k:Nat}(hk:k<=n):(cs.drop (k*z)).length=(n-k)*z/\(∀u∈cs.drop (k*z),u.oneCell'=true)/\((Is ad b off cap k z=none/\n-k=0/\cap-k=0)\/∃b' off',Is ad b off cap k z=some ⟨b',off',none⟩/\b'<w.1.size/\∀t u,(cs.drop (k*z))[t]?=some u->w.cell? ⟨b',off'+t,none⟩=some u):=by
 refine⟨by rw[List.length_drop,h.len,Nat.sub_mul],λu hu=>h.one u (GF hu),?_⟩;rcases h.src with⟨h1,h2,h3⟩|⟨h1,h2,h3,h4⟩;.exact AD ⟨by rw[Is,if_pos Za];exact h1,Za,Za⟩
 .by_cases hck:cap=k;.refine Ax ⟨b,off,by rw[Is,if_pos hck];exact h1,h3,λt u hu=>?_⟩;rw[List.drop_eq_nil_of_le (by rw[h.len];exact CQ z Za)]at hu;cases hu
  .refine Ax ⟨b,off+k*z,by rw[Is,if_neg hck],h3,λt u hu=>?_⟩;rw[Bf];rw[Ip]at hu;exact h4 _ u hu
theorem CD{w:World}{base base' e z n:Nat}{v:Value}{xs:List Value}(h:w.ownsRow base e z v n xs)(hb:base'<=base):w.ownsRow base' e z v n xs:=⟨h.1,by
  rcases h.2 with h1|⟨g,cap,cur,e1,e2,e3,e4⟩;.exact AD h1
  .exact Ax ⟨g,cap,cur,e1,AA hb e2,e3,e4⟩⟩
theorem DA{w w':World}{base e z n:Nat}{v:Value}{xs:List Value}(h:w.ownsRow base e z v n xs)(hb:Below w.1.size w w'):w'.ownsRow base e z v n xs:=CB h (Aq (P:=λ_=>False) hb) (λ_ _ h=>h)
end Go.Proofs.YtllmmkchokkaaaaGreatDoor
namespace Go.Proofs.YtllmmkchokkaaaaGreatDoor
open Go.RowKit Go.Maps Go.Proofs.Tryz
theorem Yl (n:Nat)(w:World)(hn:(n:Int)<=1099511627776):Calls prog 202 #[.l none 0 0,.i n] w λe w'=>∃v,e=.returned v/\w'.ownsRow w.1.size 9 1 v 0 []/\Below w.1.size w w':=by
 rcases AW n with h00|h0;.subst h00;go_enter func202,ntmps202;go_wp2;go_ret;exact⟨_,rfl,⟨rfl,AD ⟨rfl,rfl⟩⟩,Ak _ _⟩
 obtain⟨i0,hi0,hz0,hz1,hz2⟩:=info_parts DZ;have hrz:∀ty,∃G cur,n<=G/\G<=maxLen/\cur.size=G*1/\(Builtin.append_ #[108,3] ty #[.l none 0 0,.i (n:Int)]).run prog w=.ok (.l (some ⟨w.1.size,0,none⟩) n G) (w.drew.alloc (.cells cur 9)):=λty=>by have h:=Lib.run_append_grow_zeros w 108 3 ty 9 i0 _ .i64 .i64 underlying108 underlying3 hi0 hz0 none 0 0 [] (run_firstCells_none w.drew i0.size 0 0 0) n h0 Za Za Za Sx (growslice_fits Za Sx);rw[Bc]at h;refine⟨_,_,grownCap_ge w _ _ _,grownCap_le_maxLen w n 0 9 Zn,?_,h⟩;have hG:=grownCap_ge w n 0 9;simp only[I8,Builtin.zeroCells,Array.size_map,Ox];simp[Value.cells];omega
 obtain⟨G,cur,hG1,hG2,hcur,hap⟩:=hrz 108;have h63:(G:Int)<=9223372036854775807:=by unfold maxLen at hG2;omega
 have HC:=Ai hcur;have HG:=Ai hG2;have oZ:=Ai hap;clear hap;clear hcur hG2 hrz hi0 hz0 hz1 hz2;go_enter func202,ntmps202;go_wp2_with (at_builtin;go_must(refine DD rfl _ _ 108 3 rfl _ _ _ rfl rfl oZ ?_));go_ret;exact⟨_,rfl,CE (base:=w.1.size) (e:=9) (size:=1) w.drew cur G Bj HG HC,((Ak _ _).drew).alloc Bj _⟩
theorem NL (q:Nat)(A:Nat->Option Addr)(M C:Nat->Nat)(news:Nat->List Value)(b:Nat)(w:World)(hb:b<w.1.size)(hq:(q:Int)<=1000)(hcell:∀j,j<q->w.cell? ⟨b,j,none⟩=some (.slice (A j) (M j) (C j)))(hsrc:lJ w 1 q A M C news)(hs1:(AN M q:Int)<=1099511627776):Calls prog 186 #[.l (some ⟨b,0,none⟩) q q] w λe w'=>∃v,e=.returned v/\w'.ownsRow w.1.size 9 1 v (AN M q) (DN news q)/\Below w.1.size w w':=by
 obtain⟨i0,hi0,hz0,hz1,hz2⟩:=info_parts DZ;have HC:=Ai hcell;have HS:=Ai hsrc;have hmo:∀k,k<=q->AN M k<=AN M q:=λk hk=>DX M hk;have HM:=Ai hmo;clear hcell hsrc hmo;go_enter func186,ntmps186;go_wp2;go_loopw[3,5,11](λs _ i wr=>∃k:Nat,k<=q/\i=.i k/\s=.i (AN M k:Nat)/\wr=w)(λ_ _ i _=>q-(intOf i).toNat);case atStart=>exact⟨0,Ap _,rfl,rfl,rfl⟩
 case round=>
  obtain⟨k,hk,rfl,rfl,rfl⟩:=hrel;by_cases hkq:k<q
  .have c0:=HC k hkq;have hm:=HM (k+1) hkq;have hms:AN M (k+1)=AN M k+M k:=rfl;rw[hms]at hm;have hkz:(k:Int)<q:=Za;clear hms;go_wp2;go_roundw;case rel=>exact⟨k+1,hkq,by go_num,congrArg (Value.int .i64) (by show(_:Int)=((AN M k+M k:Nat):Int);omega),trivial⟩
   case measure=>simp[intOf];omega
  .obtain rfl:k=q:=Za;have hs2:¬(AN M k:Int)<0:=Za;go_wp2_with (go_at_call 202;go_must(refine(Yl (AN M k) _ hs1).mono ?_;rintro e w1 ⟨v1,rfl,hown1,hb1⟩));have Oz:=Ai hown1;clear hown1;obtain⟨W0,hW0⟩:∃W0,W0=wr:=⟨_,rfl⟩;subst hW0;go_loopw[6,8,27](λv _ i wr=>∃j:Nat,j<=k/\i=.i j/\Hid (wr.ownsRow W0.1.size 9 1 v (AN M j) (DN news j))/\Below W0.1.size W0 wr)(λ_ _ i _=>k-(intOf i).toNat);case atStart=>exact⟨0,Ap _,rfl,Oz,hb1⟩
   case round=>
    clear Oz hb1 hkq;obtain⟨j,hj,rfl,Gi,hbr⟩:=hrel;by_cases hjk:j<k
    .have c0:=(hbr.cell (p:=⟨b,j,none⟩) hb).trans (HC j hjk);have hm:=HM (j+1) hjk;have hms:AN M (j+1)=AN M j+M j:=rfl;rw[hms]at hm;have wE:=Ai hms;have hjz:(j:Int)<k:=Za;have hbw:b<wr.1.size:=Aa hb hbr.size;clear hms;rcases HS.src j hjk with⟨hA,hM0,hC0⟩|⟨sb,off,hA,hsb,hcs⟩
     .rw[hA,hM0,hC0]at c0;have hnil:news j=[]:=It.1 (by rw[HS.len j hjk,hM0,DF]);have HN:=Ai hnil;have W3:=Ai hM0;clear hA hM0 hC0 hnil;go_wp2_with (at_builtin;go_must(refine wpList_append_own_none rfl _ _ 108 rfl W0.1.size 9 i0 1 underlying108 hi0 _ (AN M j) (DN news j) rfl Gi rfl ?_));go_roundw;case rel=>exact⟨j+1,hjk,by go_num,(show Hid _ from by show wr.ownsRow W0.1.size 9 1 _ (AN M j+M j) (DN news j++news j);rw[HN.out,W3.out,FP];exact Gi),hbr⟩
      case measure=>simp[intOf];omega
     .rw[hA]at c0;have oR:=Ai (show∀t u,(news j)[t]?=some u->wr.cell? ((⟨sb,off,none⟩:Addr).add t)=some u from λt u h=>by rw[Addr.add_lit];exact(hbr.cell (p:=⟨sb,off+t,none⟩) hsb).trans (hcs t u h));clear hcs hA;go_wp2_with (at_builtin;go_must(refine wpList_append_own_at _ rfl _ _ 108 rfl W0.1.size 9 i0 _ 1 16 underlying108 hi0 hz0 hz1 hz2 rfl Zb _ (AN M j) (DN news j) rfl Gi ⟨sb,off,none⟩ (M j) (C j) (news j) rfl (HS.len j hjk) oR (HS.one j hjk) Zn Za hbr.size ?_;intro v' w2 hown2 hgrow2 hnil2 hat2;clear hnil2 hat2));have B2:Below W0.1.size W0 w2:=hbr.trans ((Cn hgrow2).below (λq hq e=>by have:=(Gi.lt q e).1;omega) hbr.size);have Um:Hid (w2.ownsRow W0.1.size 9 1 v' (AN M (j+1)) (DN news (j+1))):=hown2;clear hown2 hgrow2;go_wp2;go_roundw;case rel=>exact⟨j+1,hjk,by go_num,Um,B2⟩
      case measure=>simp[intOf];omega
    .obtain rfl:j=k:=Za;go_wp2;go_ret;exact⟨_,rfl,Gi,hbr⟩
def eH (ad:OA)(b off n cap k:Nat)(cs:List Value)(x:ByteArray)(W:World)(i:Nat)(v:Value)(X:World):Prop:=match i with
 |0=>v=.l ad n cap
 |1=>v=.i k
 |2=>v=.l ad k cap
 |3=>v=.s x
 |4=>∃b1,v=.l (some ⟨b1,0,none⟩) 1 1/\b1<X.1.size/\CH X b1 #[.s x]
 |5=>v=.l ad n cap
 |6=>v=.i k
 |7=>v=.l (Is ad b off cap k 1) (n-k) (cap-k)
 |8=>∃b3 b1,v=.l (some ⟨b3,0,none⟩) 3 3/\b3<X.1.size/\b1<X.1.size/\CH X b1 #[.s x]/\CH X b3 #[.l ad k cap,.l (some ⟨b1,0,none⟩) 1 1,.l (Is ad b off cap k 1) (n-k) (cap-k)]
 |9=>X.ownsRow W.1.size 9 1 v (n+1) (cs.take (k*1)++[.s x]++cs.drop (k*1))
 |_=>True
theorem mY{p3 p4 p5 p6:Value}{mk:(Nat->Value)->Array Value}(t0:Nat->Value)(ad:OA)(b off n cap k:Nat)(cs:List Value)(x:ByteArray)(W:World)(hst:DT W 1 ad b off n cap cs)(hk:k<=n)(hl:(n:Int)<=1099511627775)(hmk:mk=λt=>#[.l ad n cap,.i k,.s x,p3,p4,p5,p6,t 0,t 1,t 2,t 3,t 4,t 5,t 6,t 7,t 8,t 9])(Q:Exit->Act->World->Prop)(hQ:∀(t:Nat->Value)(vv:Value) X,Below W.1.size W X->X.ownsRow W.1.size 9 1 vv (n+1) (cs.take (k*1)++[.s x]++cs.drop (k*1))->Q .normal ⟨#[.l ad n cap,.i k,.s x,p3,p4,p5,vv,t 0,t 1,t 2,t 3,t 4,t 5,t 6,t 7,t 8,t 9],[]⟩ X):Code.wp prog (rg Tryz.f156 1) Q ⟨mk t0,[]⟩ W:=by
 refine Et Zc 10 mk t0 (eH ad b off n cap k cs x W) (λa X=>∃(t:Nat->Value)(vv:Value),a=⟨#[.l ad n cap,.i k,.s x,p3,p4,p5,vv,t 0,t 1,t 2,t 3,t 4,t 5,t 6,t 7,t 8,t 9],[]⟩/\Below W.1.size W X/\X.ownsRow W.1.size 9 1 vv (n+1) (cs.take (k*1)++[.s x]++cs.drop (k*1))) Zc Zc Zc ?_ rfl ?_ ?_ ?_;all_goals subst hmk
 .intro i v X Y hi h hb;rcases(show i=0\/i=1\/i=2\/i=3\/i=4\/i=5\/i=6\/i=7\/i=8\/i=9 by omega)with rfl|rfl|rfl|rfl|rfl|rfl|rfl|rfl|rfl|rfl;.exact h
  .exact h
  .exact h
  .exact h
  .obtain⟨b1,e1,e2,e3⟩:=h;exact⟨b1,e1,Aa e2 hb.size,e3.below hb e2⟩
  .exact h
  .exact h
  .exact h
  .obtain⟨b3,b1,e1,e2,e3,e4,e5⟩:=h;exact⟨b3,b1,e1,Aa e2 hb.size,Aa e3 hb.size,e4.below hb e3,e5.below hb e2⟩
  .exact DA h hb
 .intro i hi t X K hb hg hK;rcases(show i=0\/i=1\/i=2\/i=3\/i=4\/i=5\/i=6\/i=7\/i=8\/i=9 by omega)with rfl|rfl|rfl|rfl|rfl|rfl|rfl|rfl|rfl|rfl;.exact sg
  .exact sg
  .have e0:t 0=_:=hg 0 (AX rfl);have e1:t 1=_:=hg 1 (AX rfl);have h:=hK _ X rfl BF;refine Am rfl rfl ?_;clear hK hg;rcases hst.src with⟨rfl,rfl,rfl⟩|⟨rfl,hc,_,_⟩;.obtain rfl:k=0:=Za;go_simp;simpa[AF,e0,e1]using h
   .have hkc:k<=cap:=AA hk hc;go_simp;simpa[AF,e0,e1]using h
  .exact sg
  .have e3:t 3=_:=hg 3 (AX rfl);have h:=hK (.l (some ⟨X.1.size,0,none⟩) 1 1) (X.alloc (.cells #[.s x] 9)) ⟨X.1.size,rfl,Ze,Dk X _ 9⟩ FU;refine Am rfl rfl ?_;clear hK hg;go_simp;simpa[AF,e3]using h
  .exact sg
  .exact sg
  .have e5:t 5=_:=hg 5 (AX rfl);have e6:t 6=_:=hg 6 (AX rfl);have h:=hK _ X rfl BF;refine Am rfl rfl ?_;clear hK hg;unfold Is at h;rcases hst.src with⟨rfl,rfl,rfl⟩|⟨rfl,hc,_,_⟩;.obtain rfl:k=0:=Za;go_simp;simpa[AF,e5,e6]using h
   .by_cases hck:cap=k;.subst hck;rw[if_pos rfl,show n-cap=0 by omega,G2]at h;go_simp;simpa[AF,e5,e6]using h
    .rw[if_neg hck]at h;go_simp;simpa[AF,e5,e6]using h
  .have e2:t 2=_:=hg 2 (AX rfl);obtain⟨b1,e4,z1,h1⟩:∃b1,t 4=.l (some ⟨b1,0,none⟩) 1 1/\b1<X.1.size/\CH X b1 #[.s x]:=hg 4 (AX rfl);have e7:t 7=_:=hg 7 (AX rfl);have hB:=Ae X (.cells #[.l ad k cap,.l (some ⟨b1,0,none⟩) 1 1,.l (Is ad b off cap k 1) (n-k) (cap-k)] 108);have h:=hK (.l (some ⟨X.1.size,0,none⟩) 3 3) _ ⟨X.1.size,b1,rfl,Ze,Aa z1 hB.size,h1.below hB z1,Dk X _ 108⟩ hB;refine Am rfl rfl ?_;clear hK hg;go_simp;simpa[AF,e2,e4,e7]using h
  .obtain⟨b3,b1,e8,z3,z1,h1,h3⟩:∃b3 b1,t 8=.l (some ⟨b3,0,none⟩) 3 3/\b3<X.1.size/\b1<X.1.size/\CH X b1 #[.s x]/\CH X b3 #[.l ad k cap,.l (some ⟨b1,0,none⟩) 1 1,.l (Is ad b off cap k 1) (n-k) (cap-k)]:=hg 8 (AX rfl);refine Am rfl rfl ?_;have HK:=Ai hK;have Da:=Ai (hst.grow ((hb)));have H1:=Ai h1;have H3:=Ai h3;clear hK hg h1 h3;go_simp;go_at_call 186;refine(NL 3 (λj=>match j with|0=>ad|1=>some ⟨b1,0,none⟩|_=>Is ad b off cap k 1) (λj=>match j with|0=>k|1=>1|_=>n-k) (λj=>match j with|0=>cap|1=>1|_=>cap-k) (λj=>match j with|0=>cs.take (k*1)|1=>[.s x]|_=>cs.drop (k*1)) b3 X z3 Za (λj hj=>?_) ⟨λj hj=>?_,λj hj=>?_,λj hj=>?_⟩ uK).mono ?_
   .rcases(show j=0\/j=1\/j=2 by omega)with rfl|rfl|rfl;.exact H3 0
    .exact H3 1
    .exact H3 2
   .rcases(show j=0\/j=1\/j=2 by omega)with rfl|rfl|rfl;.exact(Da.take hk).1
    .rfl
    .exact(Da.drop hk).1
   .rcases(show j=0\/j=1\/j=2 by omega)with rfl|rfl|rfl;.exact(Da.take hk).2.1
    .intro u hu;simp at hu;subst hu;rfl
    .exact(Da.drop hk).2.1
   .rcases(show j=0\/j=1\/j=2 by omega)with rfl|rfl|rfl;.exact(Da.take hk).2.2
    .refine Ax ⟨b1,0,rfl,z1,λt u hu=>?_⟩;rw[Bc,H1.out t,<-hu];simp
    .exact(Da.drop hk).2.2
   .rintro r Y ⟨v,rfl,hown,hbY⟩;have hs:k+1+(n-k)=n+1:=Za;rw[fN,VV]at hown;have hown2:Y.ownsRow X.1.size 9 1 v (n+1) (cs.take (k*1)++[.s x]++cs.drop (k*1)):=by rw[<-hs];exact hown
    have h:=HK v Y (CD hown2 hb.size) hbY;simpa[AF,e8,e8]using h
 .intro t X K hb hg hK;have h:=hK ⟨#[.l ad n cap,.i k,.s x,p3,p4,p5,t 9,t 0,t 1,t 2,t 3,t 4,t 5,t 6,t 7,t 8,t 9],[]⟩ X ⟨t,t 9,rfl,hb,hg 9 Za⟩;refine Am rfl rfl ?_;clear hK hg;go_simp;exact h
 .rintro a X ⟨t,vv,rfl,hb,ho⟩;exact hQ t vv X hb ho
theorem iQ (ad:OA)(b off n cap k:Nat)(cs:List Value)(x:ByteArray)(w:World)(hst:DT w 1 ad b off n cap cs)(hk:k<=n)(hl:(n:Int)<=1099511627775):Calls prog 156 #[.l ad n cap,.i k,.s x] w λr w'=>∃v,r=.returned v/\w'.ownsRow w.1.size 9 1 v (n+1) (cs.take (k*1)++[.s x]++cs.drop (k*1))/\Below w.1.size w w':=by have Da:=Ai hst;clear hst;go_enter func156,ntmps156;go_wp2_with fail;refine mY (λ_=>undef) ad b off n cap k cs x _ (by exact Da) hk hl rfl _ ?_;intro t v X hbX hown;have HO:=Ai hown;have hBX:=Ai hbX;clear hown hbX;go_wp2;go_ret;exact⟨_,rfl,HO,hBX⟩
def fW (ad:OA)(b off n cap k:Nat)(cs:List Value)(W:World)(i:Nat)(v:Value)(X:World):Prop:=match i with
 |0=>v=.l ad n cap
 |1=>v=.i k
 |2=>v=.l ad k cap
 |3=>v=.l ad n cap
 |4=>v=.i k
 |5=>v=.i ((k:Int)+1)
 |6=>v=.l (Is ad b off cap (k+1) 1) (n-(k+1)) (cap-(k+1))
 |7=>∃b3,v=.l (some ⟨b3,0,none⟩) 2 2/\b3<X.1.size/\CH X b3 #[.l ad k cap,.l (Is ad b off cap (k+1) 1) (n-(k+1)) (cap-(k+1))]
 |8=>X.ownsRow W.1.size 9 1 v (n-1) (cs.take (k*1)++cs.drop ((k+1)*1))
 |_=>True
theorem kD{p2 p3 p4:Value}{mk:(Nat->Value)->Array Value}(t0:Nat->Value)(ad:OA)(b off n cap k:Nat)(cs:List Value)(W:World)(hst:DT W 1 ad b off n cap cs)(hk:k<n)(hl:(n:Int)<=1099511627775)(hmk:mk=λt=>#[.l ad n cap,.i k,p2,p3,p4,t 0,t 1,t 2,t 3,t 4,t 5,t 6,t 7,t 8])(Q:Exit->Act->World->Prop)(hQ:∀(t:Nat->Value)(vv:Value) X,Below W.1.size W X->X.ownsRow W.1.size 9 1 vv (n-1) (cs.take (k*1)++cs.drop ((k+1)*1))->Q .normal ⟨#[.l ad n cap,.i k,p2,p3,vv,t 0,t 1,t 2,t 3,t 4,t 5,t 6,t 7,t 8],[]⟩ X):Code.wp prog (rg Tryz.f158 1) Q ⟨mk t0,[]⟩ W:=by
 refine Et Zc 9 mk t0 (fW ad b off n cap k cs W) (λa X=>∃(t:Nat->Value)(vv:Value),a=⟨#[.l ad n cap,.i k,p2,p3,vv,t 0,t 1,t 2,t 3,t 4,t 5,t 6,t 7,t 8],[]⟩/\Below W.1.size W X/\X.ownsRow W.1.size 9 1 vv (n-1) (cs.take (k*1)++cs.drop ((k+1)*1))) Zc Zc Zc ?_ rfl ?_ ?_ ?_;all_goals subst hmk
 .intro i v X Y hi h hb;rcases(show i=0\/i=1\/i=2\/i=3\/i=4\/i=5\/i=6\/i=7\/i=8 by omega)with rfl|rfl|rfl|rfl|rfl|rfl|rfl|rfl|rfl;.exact h
  .exact h
  .exact h
  .exact h
  .exact h
  .exact h
  .exact h
  .obtain⟨b3,e1,e2,e3⟩:=h;exact⟨b3,e1,Aa e2 hb.size,e3.below hb e2⟩
  .exact DA h hb
 .intro i hi t X K hb hg hK;rcases(show i=0\/i=1\/i=2\/i=3\/i=4\/i=5\/i=6\/i=7\/i=8 by omega)with rfl|rfl|rfl|rfl|rfl|rfl|rfl|rfl|rfl;.exact sg
  .exact sg
  .have e0:t 0=_:=hg 0 (AX rfl);have e1:t 1=_:=hg 1 (AX rfl);have h:=hK _ X rfl BF;refine Am rfl rfl ?_;clear hK hg;rcases hst.src with⟨_,h0,_⟩|⟨rfl,hc,_,_⟩;.omega
   .have hkc:k<=cap:=Za;go_simp;simpa[AF,e0,e1]using h
  .exact sg
  .exact sg
  .have e4:t 4=_:=hg 4 (AX rfl);have hk2:(k:Int)+1<=1099511627776:=Za;have hw:IntKind.i64.wrap ((k:Int)+1)=(k:Int)+1:=BV _ ⟨Za,Za⟩;have h:=hK _ X rfl BF;refine Am rfl rfl ?_;clear hK hg;go_simp;simpa[AF,e4,hw]using h
  .have e3:t 3=_:=hg 3 (AX rfl);have e5:t 5=_:=hg 5 (AX rfl);have h:=hK _ X rfl BF;refine Am rfl rfl ?_;clear hK hg;unfold Is at h;rcases hst.src with⟨_,h0,_⟩|⟨rfl,hc,_,_⟩;.omega
   .have hk3:(k:Int)+1<=cap:=Za;have hk4:((k:Int)+1).toNat=k+1:=Za;have hk5:(0:Int)<=(k:Int)+1:=Za;have hk6:(k:Int)+1<=(n:Int):=Za;by_cases hck:cap=k+1
    .subst hck;rw[if_pos rfl,show n-(k+1)=0 by omega,G2]at h;go_simp;simpa[AF,e3,e5,hk4,hk5,hk6]using h
    .rw[if_neg hck]at h;go_simp;simpa[AF,e3,e5,hk4,hk5,hk6]using h
  .have e2:t 2=_:=hg 2 (AX rfl);have e6:t 6=_:=hg 6 (AX rfl);have hB:=Ae X (.cells #[.l ad k cap,.l (Is ad b off cap (k+1) 1) (n-(k+1)) (cap-(k+1))] 108);have h:=hK (.l (some ⟨X.1.size,0,none⟩) 2 2) _ ⟨X.1.size,rfl,Ze,Dk X _ 108⟩ hB;refine Am rfl rfl ?_;clear hK hg;go_simp;simpa[AF,e2,e6]using h
  .obtain⟨b3,e7,z3,h3⟩:∃b3,t 7=.l (some ⟨b3,0,none⟩) 2 2/\b3<X.1.size/\CH X b3 #[.l ad k cap,.l (Is ad b off cap (k+1) 1) (n-(k+1)) (cap-(k+1))]:=hg 7 (AX rfl);refine Am rfl rfl ?_;have HK:=Ai hK;have Da:=Ai (hst.grow ((hb)));have H3:=Ai h3;clear hK hg h3;go_simp;go_at_call 186;refine(NL 2 (λj=>match j with|0=>ad|_=>Is ad b off cap (k+1) 1) (λj=>match j with|0=>k|_=>n-(k+1)) (λj=>match j with|0=>cap|_=>cap-(k+1)) (λj=>match j with|0=>cs.take (k*1)|_=>cs.drop ((k+1)*1)) b3 X z3 Za (λj hj=>?_) ⟨λj hj=>?_,λj hj=>?_,λj hj=>?_⟩ xX).mono ?_
   .rcases(show j=0\/j=1 by omega)with rfl|rfl;.exact H3 0
    .exact H3 1
   .rcases(show j=0\/j=1 by omega)with rfl|rfl;.exact(Da.take (Br hk)).1
    .exact(Da.drop (k:=k+1) hk).1
   .rcases(show j=0\/j=1 by omega)with rfl|rfl;.exact(Da.take (Br hk)).2.1
    .exact(Da.drop (k:=k+1) hk).2.1
   .rcases(show j=0\/j=1 by omega)with rfl|rfl;.exact(Da.take (Br hk)).2.2
    .exact(Da.drop (k:=k+1) hk).2.2
   .rintro r Y ⟨v,rfl,hown,hbY⟩;have hs:k+(n-(k+1))=n-1:=Za;rw[lX,ZP]at hown;have hown2:Y.ownsRow X.1.size 9 1 v (n-1) (cs.take (k*1)++cs.drop ((k+1)*1)):=by rw[<-hs];exact hown
    have h:=HK v Y (CD hown2 hb.size) hbY;simpa[AF,e7,e7]using h
 .intro t X K hb hg hK;have h:=hK ⟨#[.l ad n cap,.i k,p2,p3,t 8,t 0,t 1,t 2,t 3,t 4,t 5,t 6,t 7,t 8],[]⟩ X ⟨t,t 8,rfl,hb,hg 8 Za⟩;refine Am rfl rfl ?_;clear hK hg;go_simp;exact h
 .rintro a X ⟨t,vv,rfl,hb,ho⟩;exact hQ t vv X hb ho
theorem ZS (ad:OA)(b off n cap k:Nat)(cs:List Value)(w:World)(hst:DT w 1 ad b off n cap cs)(hk:k<n)(hl:(n:Int)<=1099511627775):Calls prog 158 #[.l ad n cap,.i k] w λr w'=>∃v,r=.returned v/\w'.ownsRow w.1.size 9 1 v (n-1) (cs.take (k*1)++cs.drop ((k+1)*1))/\Below w.1.size w w':=by have Da:=Ai hst;clear hst;go_enter func158,ntmps158;go_wp2_with fail;refine kD (λ_=>undef) ad b off n cap k cs _ (by exact Da) hk hl rfl _ ?_;intro t v X hbX hown;have HO:=Ai hown;have hBX:=Ai hbX;clear hown hbX;go_wp2;go_ret;exact⟨_,rfl,HO,hBX⟩
end Go.Proofs.YtllmmkchokkaaaaGreatDoor
