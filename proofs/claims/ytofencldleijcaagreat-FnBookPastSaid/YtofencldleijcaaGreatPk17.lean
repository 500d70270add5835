import Derived.Test.YtofencldleijcaaGreatPk02
import Derived.Test.YtofencldleijcaaGreatPk11
import Derived.Shelf.Spec.SlicesGrow
import Derived.Laws.AppendOwnNone
import Derived.Test.YtofencldleijcaaGreatPk16
set_option maxRecDepth 100000
namespace Go.Proofs.YtofencldleijcaaGreat
open Go.RowKit Go.Proofs.Tryz
theorem Q6{ops:Array Oper}{l:Array Bool}(hord:((List.range ops.size).all λi=>match ops[i]? with|some o=>o.after.all (λe=>!(Region.binds .any e)||decide (e.on<i))|none=>true)=true)(hs:l.size=ops.size)(hr:Region.ready .any ops l=[]):∀i,i<ops.size->l.getD i false=true:=by
 have conv:∀i,i<ops.size->l.getD i true=l.getD i false:=λi hi=>by simp[Array.getD,hs,hi]
 intro i;induction i using Nat.strongRecOn with
 |_ i ih=>intro hi;cases hg:l.getD i false with
  |true=>rfl
  |false=>
   have hm:i∈Region.ready .any ops l:=by
    rw[mem_ready];refine⟨(conv i hi).trans hg,ops[i],by simp[hi],λe he hbd=>?_⟩;have h1:=Bt.1 hord i (by simpa using hi);simp only[DF hi]at h1;have h2:=(A9.1 h1) e he;rw[hbd]at h2;have h3:e.on<i:=by simpa using h2
    exact ih e.on h3 Zb
   rw[hr]at hm;cases hm
theorem Q5{P:Program}{id:Nat}{ops:Array Oper}{Q:Exit->Act->World->Prop}{a0:Act}{W:World}(hm:P.follows .mixedOrders=true)(n:Nat)(mk:(Nat->Value)->Array Value)(t0:Nat->Value)(I:(Nat->Bool)->(Nat->Value)->World->Prop)(hn:ops.size=n)(hord:((List.range ops.size).all λi=>match ops[i]? with|some o=>o.after.all (λe=>!(Region.binds .any e)||decide (e.on<i))|none=>true)=true)(h0:a0=⟨mk t0,[]⟩)(hI:∀f:Nat->Bool,(∀i,f i=false)->I f t0 W.drew)(sg:∀i,i<n->∀(f:Nat->Bool)(t:Nat->Value) X K,I f t X->f i=false->(∀j,Cf ops i j->f j=true)->(∀p j,Cf ops p j->f p=true->f j=true)->(∀v Y,(∀g:Nat->Bool,g i=true->(∀j,¬j=i->g j=f j)->I g (AN t i v) Y)->K ⟨mk (AN t i v),[]⟩ Y)->wpOp P ops Q i K ⟨mk t,[]⟩ X)(hfin:∀(f:Nat->Bool) t X,(∀i,i<n->f i=true)->I f t X->Q .normal ⟨mk t,[]⟩ X):(Code.region id ops true).wp P Q a0 W:=by
 refine CA hm (λl a X=>l.size=n/\(∀p j,Cf ops p j->l.getD p false=true->l.getD j false=true)/\∃t,a=⟨mk t,[]⟩/\I (λi=>l.getD i false) t X) ?_ ?_ ?_ ?_
 .have hz:∀i,(Array.replicate ops.size false).getD i false=false:=λi=>by simp[Array.getD]
  exact⟨by simp[hn],λp j _ h=>(by rw[hz]at h;cases h),t0,h0,hI _ hz⟩
 .rintro l a X ⟨hs,_⟩;rw[hs,hn]
 .rintro l a X ⟨hs,_,t,rfl,h⟩ hr;exact hfin _ t X (λi hi=>Q6 hord (by rw[hs,hn]) hr i Zb) h
 .rintro l a X i ⟨hs,hcl,t,rfl,h⟩ hr;obtain⟨hu,o,ho,hall⟩:=mem_ready.1 hr;have di:∀j,Cf ops i j->l.getD j false=true:=by
   rintro j ⟨o',ho',e,he,hb,rfl⟩;rw[ho]at ho';obtain rfl:o=o':=by simpa using ho'
   exact hall e he hb
  have hi7:i<n:=by
   rcases At i n with h|h;.exact h
   .rw[AP Zb]at ho;cases ho
  have hui:l.getD i false=false:=by have:l.getD i true=false:=hu;simpa[Array.getD,hs,hi7]using this
  have ki:(l.setIfInBounds i true).getD i false=true:=by rw[BM Zb,if_pos rfl]
  have kp:∀j,¬j=i->(l.setIfInBounds i true).getD j false=l.getD j false:=λj hj=>by rw[BM Zb,if_neg hj]
  have ku:∀j,l.getD j false=true->(l.setIfInBounds i true).getD j false=true:=λj h=>by
   by_cases e:j=i;.subst e;exact ki
   .rw[kp j e];exact h
  refine sg i hi7 _ t X _ h hui di hcl (λv Y hY=>⟨by simp[hs],λp j hj h=>?_,AN t i v,rfl,hY _ ki kp⟩);by_cases e:p=i;.subst e;exact ku j (di j hj)
  .rw[kp p e]at h;exact ku j (hcl p j hj h)
theorem ZX{P:Program}{id:Nat}{ops:Array Oper}{Q:Exit->Act->World->Prop}{a0:Act}{W:World}(hm:P.follows .mixedOrders=true)(n:Nat)(mk:(Nat->Value)->Array Value)(t0:Nat->Value)(I:(Nat->Bool)->(Nat->Value)->World->Prop)(hn:ops.size=n)(hord:((List.range ops.size).all λi=>match ops[i]? with|some o=>o.after.all (λe=>!(Region.binds .any e)||decide (e.on<i))|none=>true)=true)(h0:a0=⟨mk t0,[]⟩)(hI:∀f:Nat->Bool,(∀i,f i=false)->I f t0 W.drew)(sg:∀i,i<n->∀(f:Nat->Bool)(t:Nat->Value) X K,I f t X->f i=false->(∀j,Cf ops i j->f j=true)->(∀v Y,(∀g:Nat->Bool,g i=true->(∀j,¬j=i->g j=f j)->I g (AN t i v) Y)->K ⟨mk (AN t i v),[]⟩ Y)->wpOp P ops Q i K ⟨mk t,[]⟩ X)(hfin:∀(f:Nat->Bool) t X,(∀i,i<n->f i=true)->I f t X->Q .normal ⟨mk t,[]⟩ X):(Code.region id ops true).wp P Q a0 W:=Q5 hm n mk t0 I hn hord h0 hI (λi hi f t X K h1 h2 h3 _ h5=>sg i hi f t X K h1 h2 h3 h5) hfin
end Go.Proofs.YtofencldleijcaaGreat
namespace Go.Proofs.YtofencldleijcaaGreat
open Go.RowKit Go.Maps Go.Proofs.Tryz
structure Q4 (w:World)(z:Nat)(ad:OA)(b off n cap:Nat)(cs:List Value):Prop where
 len:cs.length=n*z
 one:∀u∈cs,u.oneCell'=true
 src:(ad=none/\n=0/\cap=0)\/(ad=some ⟨b,off,none⟩/\n<=cap/\b<w.1.size/\∀t u,cs[t]? =some u->w.cell? ⟨b,off+t,none⟩=some u)
theorem Q4.grow{w w':World}{z:Nat}{ad:OA}{b off n cap:Nat}{cs:List Value}(h:Q4 w z ad b off n cap cs)(hb:Below w.1.size w w'):Q4 w' z ad b off n cap cs:=⟨h.len,h.one,by
  rcases h.src with h1|⟨h1,h2,h3,h4⟩;.exact AO h1
  .exact AD ⟨h1,h2,Ad h3 hb.size,λt u hu=>(hb.cell (p:=⟨b,off+t,none⟩) h3).trans (h4 t u hu)⟩⟩
theorem Q4.take{w:World}{z:Nat}{ad:OA}{b off n cap:Nat}{cs:List Value}(h:Q4 w z ad b off n cap cs){k:Nat}(hk:k<=n):(cs.take (k*z)).length=k*z/\(∀u∈cs.take (k*z),u.oneCell'=true)/\((ad=none/\k=0/\cap=0)\/∃b off,ad=some ⟨b,off,none⟩/\b<w.1.size/\∀t u,(cs.take (k*z))[t]? =some u->w.cell? ⟨b,off+t,none⟩=some u):=by
 have hm:k*z<=n*z:=Nat.mul_le_mul_right z hk;refine⟨by rw[List.length_take,h.len,Nat.min_eq_left hm],λu hu=>h.one u (List.mem_of_mem_take hu),?_⟩;rcases h.src with⟨h1,h2,h3⟩|⟨h1,h2,h3,h4⟩;.exact AO ⟨h1,Zb,h3⟩
 .refine AD ⟨b,off,h1,h3,λt u hu=>h4 t u ?_⟩;rw[List.getElem?_take]at hu;split at hu;.exact hu
  .cases hu
theorem NO{w w':World}{base e z n:Nat}{v:Value}{xs:List Value}(h:w.ownsRow base e z v n xs)(hb:Below w.1.size w w'):w'.ownsRow base e z v n xs:=Fm h (Ap (P:=λ_=>False) hb) (λ_ _ h=>h)
end Go.Proofs.YtofencldleijcaaGreat
namespace Go.Proofs.YtofencldleijcaaGreat
open Go.RowKit Go.Maps Go.Proofs.Tryz
theorem Tm{w:World}{g:Nat}{c:Nat->Value}{v0 v1 v2 v3 v4 v5 v6:Value}(h:AM w g 7 c):AM (((((((w.setCell ⟨g,0,none⟩ v0).setCell ⟨g,1,none⟩ v1).setCell ⟨g,2,none⟩ v2).setCell ⟨g,3,none⟩ v3).setCell ⟨g,4,none⟩ v4).setCell ⟨g,5,none⟩ v5).setCell ⟨g,6,none⟩ v6) g 7 (A7 [v0,v1,v2,v3,v4,v5,v6]):=by have H:=((((((h.set (o:=0) Zb v0).set (o:=1) Zb v1).set (o:=2) Zb v2).set (o:=3) Zb v3).set (o:=4) Zb v4).set (o:=5) Zb v5).set (o:=6) Zb v6;refine⟨H.lt,H.free,λj hj=>(H.cell j hj).trans ?_⟩;rcases(show j=0\/j=1\/j=2\/j=3\/j=4\/j=5\/j=6 by omega)with rfl|rfl|rfl|rfl|rfl|rfl|rfl<;>rfl
end Go.Proofs.YtofencldleijcaaGreat
