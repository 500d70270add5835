import Derived.Test.YtdknjmgdgnmhjaaGreatPk03
set_option maxRecDepth 100000
set_option maxHeartbeats 1000000
namespace Go.Proofs.YtdknjmgdgnmhjaaGreat
open Go.RowKit Go.Proofs.Tryz
structure GW (w:World)where
 val:World
 prop:Below w.1.size w val
theorem AP{P:Program}{id:Nat}{Q:Exit->Act->World->Prop}{a:Act}{w:World}{l:List Oper}(hm:P.follows .mixedOrders=true)(hB:Region.lexB .any l.toArray=true)(h:wpQuiet P l.toArray (λw'=>∃u:GW w,w'=u.val) (λa'=>∀w',(∃u:GW w,w'=u.val)->Q .normal a' w') l a):(Code.region id l.toArray true).wp P Q a w:=wp_region_quiet (C:=λw'=>∃u:GW w,w'=u.val) hm hB ⟨⟨w.drew,(Ap _ _).drew⟩,rfl⟩ (by simpa using h)
theorem B4{P:Program}{f:FuncId}{args:Array Value}{w:World}{v:Value}{u:GW w}(h:Calls P f args u.val λe w'=>e=.returned v/\Below u.val.1.size u.val w'):Calls P f args u.val λe w''=>e=.returned v/\∃u':GW w,w''=u'.val:=h.mono λ_ w'' ⟨he,hb⟩=>⟨he,⟨w'',u.prop.trans (hb.mono u.prop.size)⟩,rfl⟩
theorem Aq{W1:World}{p:Addr}{v:Value}(h:W1.cell? p=some v)(hp:p.block<W1.1.size):∀u:GW W1,u.val.cell? p=some v:=λu=>(u.prop.cell hp).trans h
def Bv (x:Ob)(now:Int):Bool:=Cc x.k&&(Cc x.n&&(G6 x.t 1 now&&(G6 x.b 1 x.t&&(decide (x.m.size<=300)&&D7 x.hn x.hs))))
theorem BY (w:World)(q:Nat):Below w.1.size w (w.drewN q):=⟨rfl,rfl,rfl,AG _,λ_ _=>rfl⟩
theorem T5 (x:Ob)(now:Int)(ad:OA)(cap:Nat)(w:World)(lo hi:Nat)(CD:hi<=w.1.size)(hf:Cu x)(hc:AK w lo hi ad x.hn x.hs):Calls prog 86 #[.agg (vO x ad cap),.i now] w λe w'=>e=.returned (.bool (Bv x now))/\Below w.1.size w w':=by obtain⟨fk,fn,ft,fh,fs,_⟩:=hf;have vi:(x.hn:Int)<=140737488355328:=Za;have Tj:=λo=>hc.alloc CD o;cases h1:Cc x.k with
 |false=>have HE:=Ab (show Bv x now=false by simp[Bv,h1]);exact XI
 |true=>cases h2:Cc x.n with
  |false=>have HE:=Ab (show Bv x now=false by simp[Bv,h1,h2]);exact XI
  |true=>cases h3:G6 x.t 1 now with
   |false=>have HE:=Ab (show Bv x now=false by simp[Bv,h1,h2,h3]);exact XI
   |true=>cases h4:G6 x.b 1 x.t with
    |false=>have HE:=Ab (show Bv x now=false by simp[Bv,h1,h2,h3,h4]);exact XI
    |true=>
     by_cases h5:(x.m.size:Int)<=300;case neg=>have gy:decide (x.m.size<=300)=false:=decide_eq_false Za;have HE:=Ab (show Bv x now=false by simp[Bv,h1,h2,h3,h4,gy]);exact XI
     have gy:decide (x.m.size<=300)=true:=decide_eq_true Za;by_cases h6:(x.hn:Int)<=5;case neg=>
      have h6b:D7 x.hn x.hs=false:=by unfold D7;rw[decide_eq_false Za];rfl
      have HE:=Ab (show Bv x now=false by simp[Bv,h1,h2,h3,h4,gy,h6b]);exact XI
     cases h7:S3 x.hn x.hs with
     |false=>
      have h6b:D7 x.hn x.hs=false:=by unfold D7;rw[h7];simp
      have HE:=Ab (show Bv x now=false by simp[Bv,h1,h2,h3,h4,gy,h6b]);exact XI
     |true=>
      have h6b:D7 x.hn x.hs=true:=by unfold D7;rw[h7,decide_eq_true (show x.hn<=5 by omega)];rfl
      have HE:=Ab (show Bv x now=true by simp[Bv,h1,h2,h3,h4,gy,h6b]);exact XI
theorem IW (x:Ob)(now:Int)(ad:OA)(cap:Nat)(w:World)(lo hi:Nat)(CD:hi<=w.1.size)(hf:Cu x)(hc:AK w lo hi ad x.hn x.hs):Calls prog 92 #[.agg (vO x ad cap),.i now] w λe w'=>e=.returned (.bool (Bv x now))/\Below w.1.size w w':=by obtain⟨fk,fn,ft,fh,fs,_⟩:=hf;have vi:(x.hn:Int)<=140737488355328:=Za;have Tj:=λo=>hc.alloc CD o;cases h1:Cc x.k with
 |false=>have HE:=Ab (show Bv x now=false by simp[Bv,h1]);exact aP
 |true=>cases h2:Cc x.n with
  |false=>have HE:=Ab (show Bv x now=false by simp[Bv,h1,h2]);exact aP
  |true=>cases h3:G6 x.t 1 now with
   |false=>have HE:=Ab (show Bv x now=false by simp[Bv,h1,h2,h3]);exact aP
   |true=>cases h4:G6 x.b 1 x.t with
    |false=>have HE:=Ab (show Bv x now=false by simp[Bv,h1,h2,h3,h4]);exact aP
    |true=>
     by_cases h5:(x.m.size:Int)<=300;case neg=>have gy:decide (x.m.size<=300)=false:=decide_eq_false Za;have HE:=Ab (show Bv x now=false by simp[Bv,h1,h2,h3,h4,gy]);exact aP
     have gy:decide (x.m.size<=300)=true:=decide_eq_true Za;cases h6:D7 x.hn x.hs with
     |false=>have HE:=Ab (show Bv x now=false by simp[Bv,h1,h2,h3,h4,gy,h6]);exact aP
     |true=>have HE:=Ab (show Bv x now=true by simp[Bv,h1,h2,h3,h4,gy,h6]);exact aP
theorem Oc (x:Ob)(now:Int)(en:Bool)(hen:x.e=en)(ad:OA)(cap:Nat)(w:World)(lo hi:Nat)(CD:hi<=w.1.size)(hf:Cu x)(hc:AK w lo hi ad x.hn x.hs):Calls prog 86 #[.agg #[.s x.k,.s x.n,.i x.t,.i x.b,.s x.m,.bool en,.l ad x.hn cap],.i now] w λe w'=>e=.returned (.bool (Bv x now))/\Below w.1.size w w':=by subst hen;exact T5 x now ad cap w lo hi CD hf hc
theorem UG (x z:Ob)(e1 e2:Bool)(ad CY:OA)(cap cap2:Nat)(w:World):Calls prog 42 #[.agg #[.s x.k,.s x.n,.i x.t,.i x.b,.s x.m,.bool e1,.l ad x.hn cap],.agg #[.s z.k,.s z.n,.i z.t,.i z.b,.s z.m,.bool e2,.l CY z.hn cap2]] w λe w'=>e=.returned (.i (ET x z))/\Below w.1.size w w':=Mo ⟨x.k,x.n,x.t,x.b,x.m,e1,x.hn,x.hs⟩ ⟨z.k,z.n,z.t,z.b,z.m,e2,z.hn,z.hs⟩ ad CY cap cap2 w
end Go.Proofs.YtdknjmgdgnmhjaaGreat
