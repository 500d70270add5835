import Derived.Test.YtofencldleijcaaGreatPk21
import Derived.Test.YtofencldleijcaaGreatPk22
set_option maxRecDepth 100000
namespace Go.Proofs.YtofencldleijcaaGreat
open Go.RowKit Go.Maps Go.Proofs.Tryz
theorem Tj{B:Bk}{v:Wr}(hok:IR B v):(B9 B v).hn<=5/\IC (B9 B v).hn (B9 B v).hs/\(B8 B.os v.kind v.name B.on=false->B9 B v=Z8):=by unfold B9 BS B8;cases h:Jb B.os v.kind v.name B.on with
 |none=>exact⟨Aw _,λi j _ h2=>absurd h2 (Ai _),λ_=>rfl⟩
 |some i=>have h1:=hok.hold i (Ju h).1;exact⟨h1.1,h1.2,λh2=>by simp at h2⟩
theorem IF{B:Bk}{v:Wr}{w:World}{c:Int}(hc:Dp B v=c)(h0:¬c=0){e:Ending}{w':World}(h:e=.returned (.tuple #[.agg #[.i 0,.bool false,.s ⟨#[]⟩,.s ⟨#[]⟩,.i 0,.i 0,.s ⟨#[]⟩,.bool false,.l none 0 0],.i c])/\Below w.1.size w w'):Mz B v w e w':=by
 have hw:Bv B v=c:=by unfold Bv;rw[hc,if_neg h0]
 exact⟨h.2,AO ⟨by rw[hw];exact h0,by rw[hw];exact h.1⟩⟩
theorem YO{v:Wr}(h:EU v=true)(h1:v.op=1):v.seen=0:=by unfold EU at h;rw[Ak]at h;have h2:=h.2;unfold Gi at h2;rw[if_pos h1]at h2;exact of_decide_eq_true h2
theorem TM (n:Nat):(!(!true||decide (0<n)))=((n:Int)==0):=by cases n with
 |zero=>rfl
 |succ k=>simp;omega
theorem PU (B:Bk)(v:Wr)(a1 a2 a3:OA)(c1 c2 c3:Nat)(w:World)(hok:IR B v)(hc:Bs w 0 w.1.size a1 B.on B.os):Calls prog 41 #[.agg (vB B a1 a2 a3 c1 c2 c3),.agg (vW v)] w λe w'=>Mz B v w e w':=by obtain⟨hl,hasc,hno⟩:=Tj hok;have hol:((B9 B v).hn:Int)<=5:=Zb;cases ht:B8 B.os v.kind v.name B.on with
 |false=>
  by_cases h1:v.op=1
  .have hw:=hno ht;have hs:=YO hok.wr h1;have he:(B9 B v).ending=false:=by rw[hw];rfl
   have hoc:=fC ht hw h1 hs;by_cases h100:100<=B.on
   .rw[if_pos h100]at hoc;exact(fT B v a1 a2 a3 c1 c2 c3 (B9 B v) w hok hc rfl hol ht h1 hs he h100).mono (λ_ _ h=>IF hoc Za h)
   .rw[if_neg h100]at hoc;by_cases hh0:v.hold=⟨#[]⟩
    .have hx:Cp B v=⟨v.kind,v.name,B.now+1,B.now+1,v.text,false,0,λ_=>v.hold⟩:=by unfold Cp IP;rw[if_pos h1,if_pos (by simp[LO,hh0])]
     have hg:CK B v=false:=by unfold CK;rw[hx];simp[CJ]
     exact gV B v a1 a2 a3 c1 c2 c3 (B9 B v) w hok hc rfl hol ht h1 hoc hs he hh0 h100 (by show _=Value.agg #[.i (B.now+1),.bool (CK B v),.s (Cp B v).kind,.s (Cp B v).name,.i (Cp B v).ver,.i (Cp B v).born,.s (Cp B v).text,.bool (Cp B v).ending,.l _ (Cp B v).hn _];rw[hg,hx]) (λW A=>by show Ax W 0 _ A (Cp B v).hn (Cp B v).hs=_;rw[hx])
    .have hx:Cp B v=⟨v.kind,v.name,B.now+1,B.now+1,v.text,false,1,λ_=>v.hold⟩:=by unfold Cp IP;rw[if_pos h1,if_neg (by simp[LO,hh0])]
     have hg:CK B v=false:=by unfold CK;rw[hx];simp[CJ]
     exact eQ B v a1 a2 a3 c1 c2 c3 (B9 B v) w hok hc rfl hol ht h1 hoc hs he hh0 h100 (λ_ _=>by show _=Value.agg #[.i (B.now+1),.bool (CK B v),.s (Cp B v).kind,.s (Cp B v).name,.i (Cp B v).ver,.i (Cp B v).born,.s (Cp B v).text,.bool (Cp B v).ending,.l _ (Cp B v).hn _];rw[hg,hx]) (λW A=>by show Ax W 0 _ A (Cp B v).hn (Cp B v).hs=_;rw[hx])
  .exact(Vo B v a1 a2 a3 c1 c2 c3 (B9 B v) w hok hc rfl hol ht h1).mono (λ_ _ h=>IF (TS ht h1).1 Za h)
 |true=>
  by_cases h1:v.op=1;.exact(SU B v a1 a2 a3 c1 c2 c3 (B9 B v) w hok hc rfl hol ht h1).mono (λ_ _ h=>IF (YJ ht h1).1 Za h)
  by_cases hst:¬v.seen=0/\¬v.seen=(B9 B v).ver;.exact(nU B v a1 a2 a3 c1 c2 c3 (B9 B v) w hok hc rfl hol ht h1 hst.1 hst.2).mono (λ_ _ h=>IF (Wu ht h1 hst).1 Za h)
  have hsv:v.seen=0\/(¬v.seen=0/\v.seen=(B9 B v).ver):=by
   by_cases h:v.seen=0;.exact AO h
   .exact AD ⟨h,Classical.byContradiction (λq=>hst ⟨h,q⟩)⟩
  by_cases hend:(B9 B v).ending=true/\¬v.op=5;.exact(oE B v a1 a2 a3 c1 c2 c3 (B9 B v) w hok hc rfl hol ht h1 hend.2 hsv hend.1).mono (λ_ _ h=>IF (iB ht h1 hst hend.1 hend.2).1 Za h)
  have hoc:=lI ht h1 hst hend;have he:¬v.op=5->(B9 B v).ending=false:=λh5=>by cases h:(B9 B v).ending with
   |false=>rfl
   |true=>exact absurd ⟨h,h5⟩ hend
  rcases YX hok.wr with h|h|h|h|h;.exact absurd h h1
  .have he:=he Zb;rw[if_neg Zb,if_neg Zb]at hoc;have hx:Cp B v=⟨(B9 B v).kind,(B9 B v).name,B.now+1,(B9 B v).born,v.text,false,(B9 B v).hn,(B9 B v).hs⟩:=by unfold Cp IP;rw[if_neg h1,if_pos h,he]
   have hg:CK B v=false:=by unfold CK;rw[hx];simp[CJ]
   exact lG B v a1 a2 a3 c1 c2 c3 (B9 B v) w hok hc rfl hol ht h hoc hsv he (λ_ _=>by show _=Value.agg #[.i (B.now+1),.bool (CK B v),.s (Cp B v).kind,.s (Cp B v).name,.i (Cp B v).ver,.i (Cp B v).born,.s (Cp B v).text,.bool (Cp B v).ending,.l _ (Cp B v).hn _];rw[hg,hx]) (λW A=>by show Ax W 0 _ A (Cp B v).hn (Cp B v).hs=_;rw[hx])
  .have he:=he Zb;rw[if_neg Zb,if_neg Zb]at hoc;have hx:Cp B v=⟨(B9 B v).kind,(B9 B v).name,B.now+1,(B9 B v).born,(B9 B v).text,true,(B9 B v).hn,(B9 B v).hs⟩:=by unfold Cp IP;rw[if_neg h1,if_neg Zb,if_pos h]
   have hg:CK B v=(((B9 B v).hn:Int)==0):=by unfold CK;rw[hx];exact TM _
   exact lV B v a1 a2 a3 c1 c2 c3 (B9 B v) w hok hc rfl hol ht h hoc hsv he (λ_ _=>by show _=Value.agg #[.i (B.now+1),.bool (CK B v),.s (Cp B v).kind,.s (Cp B v).name,.i (Cp B v).ver,.i (Cp B v).born,.s (Cp B v).text,.bool (Cp B v).ending,.l _ (Cp B v).hn _];rw[hg,hx]) (λW A=>by show Ax W 0 _ A (Cp B v).hn (Cp B v).hs=_;rw[hx])
  .have he:=he Zb;rw[if_pos h]at hoc;cases hh:I4 (B9 B v).hn (B9 B v).hs v.hold with
   |true=>rw[hh,if_pos rfl]at hoc;exact(hU B v a1 a2 a3 c1 c2 c3 (B9 B v) w hok hc rfl hol ht h hsv he hh).mono (λ_ _ h=>IF hoc Za h)
   |false=>
    rw[hh,if_neg Za]at hoc;by_cases h5:5<=(B9 B v).hn;.rw[if_pos h5]at hoc;exact(gM B v a1 a2 a3 c1 c2 c3 (B9 B v) w hok hc rfl hol ht h hsv he hh Zb).mono (λ_ _ h=>IF hoc Za h)
    .rw[if_neg h5]at hoc;have hx:Cp B v=⟨(B9 B v).kind,(B9 B v).name,B.now+1,(B9 B v).born,(B9 B v).text,false,(B9 B v).hn+1,Mr (B9 B v).hs (E7 (B9 B v).hs v.hold (B9 B v).hn) v.hold⟩:=by unfold Cp IP;rw[if_neg h1,if_neg Zb,if_neg Zb,if_pos h,he]
     have hg:CK B v=false:=by unfold CK;rw[hx];simp[CJ]
     exact lK B v a1 a2 a3 c1 c2 c3 (B9 B v) w hok hc rfl hol ht h hsv he hh Zb hoc (λ_ _=>by show _=Value.agg #[.i (B.now+1),.bool (CK B v),.s (Cp B v).kind,.s (Cp B v).name,.i (Cp B v).ver,.i (Cp B v).born,.s (Cp B v).text,.bool (Cp B v).ending,.l _ (Cp B v).hn _];rw[hg,hx]) (λW A=>by show Ax W 0 _ A (Cp B v).hn (Cp B v).hs=_;rw[hx])
  .rw[if_neg Zb,if_pos h]at hoc;cases hh:I4 (B9 B v).hn (B9 B v).hs v.hold with
   |false=>rw[hh,if_neg Za]at hoc;exact(gY B v a1 a2 a3 c1 c2 c3 (B9 B v) w hok hc rfl hol ht h hsv hh).mono (λ_ _ h=>IF hoc Za h)
   |true=>
    rw[hh,if_pos rfl]at hoc;have hx0:Cp B v=⟨(B9 B v).kind,(B9 B v).name,B.now+1,(B9 B v).born,(B9 B v).text,(B9 B v).ending,(B9 B v).hn-1,Jq (B9 B v).hs (E7 (B9 B v).hs v.hold (B9 B v).hn)⟩:=by unfold Cp IP;rw[if_neg h1,if_neg Zb,if_neg Zb,if_neg Zb]
    cases hE:(B9 B v).ending with
    |false=>
     have hx:=hx0;rw[hE]at hx;have hg:CK B v=false:=by unfold CK;rw[hx];simp[CJ]
     exact fK B v a1 a2 a3 c1 c2 c3 (B9 B v) w hok hc rfl hol ht h hsv hE hh hasc _ rfl hoc (λ_ _=>by show _=Value.agg #[.i (B.now+1),.bool (CK B v),.s (Cp B v).kind,.s (Cp B v).name,.i (Cp B v).ver,.i (Cp B v).born,.s (Cp B v).text,.bool (Cp B v).ending,.l _ (Cp B v).hn _];rw[hg,hx]) (λW A=>by show Ax W 0 _ A (Cp B v).hn (Cp B v).hs=_;rw[hx])
    |true=>
     have hx:=hx0;rw[hE]at hx;have hg:CK B v=((((B9 B v).hn-1:Nat):Int)==0):=by unfold CK;rw[hx];exact TM _
     exact fD B v a1 a2 a3 c1 c2 c3 (B9 B v) w hok hc rfl hol ht h hsv hE hh hasc _ rfl hoc (λ_ _=>by show _=Value.agg #[.i (B.now+1),.bool (CK B v),.s (Cp B v).kind,.s (Cp B v).name,.i (Cp B v).ver,.i (Cp B v).born,.s (Cp B v).text,.bool (Cp B v).ending,.l _ (Cp B v).hn _];rw[hg,hx]) (λW A=>by show Ax W 0 _ A (Cp B v).hn (Cp B v).hs=_;rw[hx])
end Go.Proofs.YtofencldleijcaaGreat
