import Derived.Test.YtnnjcenacidceaaGreatPk01
import Derived.Test.YtnnjcenacidceaaGreatPk03
set_option maxRecDepth 100000
set_option maxHeartbeats 1000000
namespace Go.Proofs.YtnnjcenacidceaaGreat
open Go.RowKit Go.Proofs.Tryz
structure GW (w:World)where
 val:World
 prop:Below w.1.size w val
theorem AI{P:Program}{id:Nat}{Q:Exit->Act->World->Prop}{a:Act}{w:World}{l:List Oper}(hm:P.follows .mixedOrders=true)(hB:Region.lexB .any l.toArray=true)(h:wpQuiet P l.toArray (λw'=>∃u:GW w,w'=u.val) (λa'=>∀w',(∃u:GW w,w'=u.val)->Q .normal a' w') l a):(Code.region id l.toArray true).wp P Q a w:=wp_region_quiet (C:=λw'=>∃u:GW w,w'=u.val) hm hB ⟨⟨w.drew,(Aq _ _).drew⟩,rfl⟩ (by simpa using h)
theorem Bm{P:Program}{f:FuncId}{args:Array Value}{w:World}{v:Value}{u:GW w}(h:Calls P f args u.val λe w'=>e=.returned v/\Below u.val.1.size u.val w'):Calls P f args u.val λe w''=>e=.returned v/\∃u':GW w,w''=u'.val:=h.mono λ_ w'' ⟨he,hb⟩=>⟨he,⟨w'',u.prop.trans (hb.mono u.prop.size)⟩,rfl⟩
theorem Ak{W1:World}{p:Addr}{v:Value}(h:W1.cell? p=some v)(hp:p.block<W1.1.size):∀u:GW W1,u.val.cell? p=some v:=λu=>(u.prop.cell hp).trans h
def Bq (x:Ob)(now:Int):Bool:=BB x.kind&&(BB x.name&&(EX x.ver 1 now&&(EX x.born 1 x.ver&&(decide (x.text.size<=300)&&Ew x.hn x.hs))))
theorem BK (w:World)(q:Nat):Below w.1.size w (w.drewN q):=⟨rfl,rfl,rfl,AG _,λ_ _=>rfl⟩
theorem NT{P:Prop}(h:P:=by go_enter func49,ntmps49;go_wp2_with (first|(go_at_call 55;refine(A7 _ _ (by first|exact fk|exact fn)).mono ?_;rintro e w1 ⟨rfl,rfl⟩)|(go_at_call 21;refine(BV _ _ _ _).mono ?_;rintro e w1 ⟨rfl,rfl⟩)|(go_at_call 79;refine(kM x.hn x.hs ad cap _ lo hi hfh fs (hcA _)).mono ?_;rintro e w1 ⟨rfl,q,rfl⟩));go_ret;exact⟨Az HE.symm,by first|exact An _ _|exact(An _ _).trans ((BK _ _).mono Zc)⟩):P:=h
theorem Tz (x:Ob)(now:Int)(ad:OA)(cap:Nat)(w:World)(lo hi:Nat)(hhi:hi<=w.1.size)(hf:Ec x)(hc:AD w lo hi ad x.hn x.hs):Calls prog 49 #[.agg (vO x ad cap),.i now] w λe w'=>e=.returned (.bool (Bq x now))/\Below w.1.size w w':=by obtain⟨fk,fn,ft,fh,fs,_⟩:=hf;have hfh:(x.hn:Int)<=140737488355328:=Za;have hcA:=λo=>hc.alloc hhi o;cases h1:BB x.kind with
 |false=>have HE:=Aj (show Bq x now=false by simp[Bq,h1]);exact NT
 |true=>cases h2:BB x.name with
  |false=>have HE:=Aj (show Bq x now=false by simp[Bq,h1,h2]);exact NT
  |true=>cases h3:EX x.ver 1 now with
   |false=>have HE:=Aj (show Bq x now=false by simp[Bq,h1,h2,h3]);exact NT
   |true=>cases h4:EX x.born 1 x.ver with
    |false=>have HE:=Aj (show Bq x now=false by simp[Bq,h1,h2,h3,h4]);exact NT
    |true=>
     by_cases h5:(x.text.size:Int)<=300;case neg=>have h5b:decide (x.text.size<=300)=false:=decide_eq_false Za;have HE:=Aj (show Bq x now=false by simp[Bq,h1,h2,h3,h4,h5b]);exact NT
     have h5b:decide (x.text.size<=300)=true:=decide_eq_true Za;by_cases h6:(x.hn:Int)<=5;case neg=>
      have h6b:Ew x.hn x.hs=false:=by unfold Ew;rw[decide_eq_false Za];rfl
      have HE:=Aj (show Bq x now=false by simp[Bq,h1,h2,h3,h4,h5b,h6b]);exact NT
     cases h7:SN x.hn x.hs with
     |false=>
      have h6b:Ew x.hn x.hs=false:=by unfold Ew;rw[h7];simp
      have HE:=Aj (show Bq x now=false by simp[Bq,h1,h2,h3,h4,h5b,h6b]);exact NT
     |true=>
      have h6b:Ew x.hn x.hs=true:=by unfold Ew;rw[h7,decide_eq_true (show x.hn<=5 by omega)];rfl
      have HE:=Aj (show Bq x now=true by simp[Bq,h1,h2,h3,h4,h5b,h6b]);exact NT
theorem OR{P:Prop}(h:P:=by go_enter func61,ntmps61;go_wp2_with (first|(go_at_call 83;refine(LU _ _ (by first|exact fk|exact fn)).mono ?_;rintro e w1 ⟨rfl,rfl⟩)|(go_at_call 25;refine(KX _ _ _ _).mono ?_;rintro e w1 ⟨rfl,rfl⟩)|(go_at_call 84;refine(TV x.hn x.hs ad cap _ lo hi hfh fs (hcA _)).mono ?_;rintro e w1 ⟨rfl,q,rfl⟩));go_ret;exact⟨Az HE.symm,by first|exact An _ _|exact(An _ _).trans ((BK _ _).mono Zc)⟩):P:=h
theorem L9 (x:Ob)(now:Int)(ad:OA)(cap:Nat)(w:World)(lo hi:Nat)(hhi:hi<=w.1.size)(hf:Ec x)(hc:AD w lo hi ad x.hn x.hs):Calls prog 61 #[.agg (vO x ad cap),.i now] w λe w'=>e=.returned (.bool (Bq x now))/\Below w.1.size w w':=by obtain⟨fk,fn,ft,fh,fs,_⟩:=hf;have hfh:(x.hn:Int)<=140737488355328:=Za;have hcA:=λo=>hc.alloc hhi o;cases h1:BB x.kind with
 |false=>have HE:=Aj (show Bq x now=false by simp[Bq,h1]);exact OR
 |true=>cases h2:BB x.name with
  |false=>have HE:=Aj (show Bq x now=false by simp[Bq,h1,h2]);exact OR
  |true=>cases h3:EX x.ver 1 now with
   |false=>have HE:=Aj (show Bq x now=false by simp[Bq,h1,h2,h3]);exact OR
   |true=>cases h4:EX x.born 1 x.ver with
    |false=>have HE:=Aj (show Bq x now=false by simp[Bq,h1,h2,h3,h4]);exact OR
    |true=>
     by_cases h5:(x.text.size:Int)<=300;case neg=>have h5b:decide (x.text.size<=300)=false:=decide_eq_false Za;have HE:=Aj (show Bq x now=false by simp[Bq,h1,h2,h3,h4,h5b]);exact OR
     have h5b:decide (x.text.size<=300)=true:=decide_eq_true Za;cases h6:Ew x.hn x.hs with
     |false=>have HE:=Aj (show Bq x now=false by simp[Bq,h1,h2,h3,h4,h5b,h6]);exact OR
     |true=>have HE:=Aj (show Bq x now=true by simp[Bq,h1,h2,h3,h4,h5b,h6]);exact OR
theorem Pe (x:Ob)(now:Int)(en:Bool)(hen:x.ending=en)(ad:OA)(cap:Nat)(w:World)(lo hi:Nat)(hhi:hi<=w.1.size)(hf:Ec x)(hc:AD w lo hi ad x.hn x.hs):Calls prog 49 #[.agg #[.s x.kind,.s x.name,.i x.ver,.i x.born,.s x.text,.bool en,.l ad x.hn cap],.i now] w λe w'=>e=.returned (.bool (Bq x now))/\Below w.1.size w w':=by subst hen;exact Tz x now ad cap w lo hi hhi hf hc
theorem Ul (x z:Ob)(e1 e2:Bool)(ad ad2:OA)(cap cap2:Nat)(w:World):Calls prog 50 #[.agg #[.s x.kind,.s x.name,.i x.ver,.i x.born,.s x.text,.bool e1,.l ad x.hn cap],.agg #[.s z.kind,.s z.name,.i z.ver,.i z.born,.s z.text,.bool e2,.l ad2 z.hn cap2]] w λe w'=>e=.returned (.i (EU x z))/\Below w.1.size w w':=Oj ⟨x.kind,x.name,x.ver,x.born,x.text,e1,x.hn,x.hs⟩ ⟨z.kind,z.name,z.ver,z.born,z.text,e2,z.hn,z.hs⟩ ad ad2 cap cap2 w
end Go.Proofs.YtnnjcenacidceaaGreat
