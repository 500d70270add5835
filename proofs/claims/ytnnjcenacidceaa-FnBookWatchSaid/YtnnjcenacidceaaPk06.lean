import Derived.Test.YtnnjcenacidceaaPk01
import Derived.Test.YtnnjcenacidceaaPk03
set_option maxRecDepth 100000
set_option maxHeartbeats 1000000
namespace Go.Proofs.Ytnnjcenacidceaa
open Go.RowKit Go.Proofs.Try
structure GW (w:World)where
 val:World
 prop:Below w.1.size w val
theorem AE{P:Program}{id:Nat}{Q:Exit->Act->World->Prop}{a:Act}{w:World}{l:List Oper}(hm:P.follows .mixedOrders=true)(hB:Region.lexB .any l.toArray=true)(h:wpQuiet P l.toArray (λw'=>∃u:GW w,w'=u.val) (λa'=>∀w',(∃u:GW w,w'=u.val)->Q .normal a' w') l a):(Code.region id l.toArray true).wp P Q a w:=wp_region_quiet (C:=λw'=>∃u:GW w,w'=u.val) hm hB ⟨⟨w.drew,(Ao _ _).drew⟩,rfl⟩ (by simpa using h)
theorem Bf{P:Program}{f:FuncId}{args:Array Value}{w:World}{v:Value}{u:GW w}(h:Calls P f args u.val λe w'=>e=.returned v/\Below u.val.1.size u.val w'):Calls P f args u.val λe w''=>e=.returned v/\∃u':GW w,w''=u'.val:=h.mono λ_ w'' ⟨he,hb⟩=>⟨he,⟨w'',u.prop.trans (hb.mono u.prop.size)⟩,rfl⟩
theorem Ai{W1:World}{p:Addr}{v:Value}(h:W1.cell? p=some v)(hp:p.block<W1.1.size):∀u:GW W1,u.val.cell? p=some v:=λu=>(u.prop.cell hp).trans h
def Bg (x:Ob)(now:Int):Bool:=Bv x.kind&&(Bv x.name&&(EG x.ver 1 now&&(EG x.born 1 x.ver&&(decide (x.text.size<=300)&&EB x.hn x.hs))))
theorem BH (w:World)(q:Nat):Below w.1.size w (w.drewN q):=⟨rfl,rfl,rfl,AD _,λ_ _=>rfl⟩
theorem NE{P:Prop}(h:P:=by go_enter func61,ntmps61;go_wp2_with (first|(go_at_call 67;refine(AV _ _ (by first|exact fk|exact fn)).mono ?_;rintro e w1 ⟨rfl,rfl⟩)|(go_at_call 37;refine(BM _ _ _ _).mono ?_;rintro e w1 ⟨rfl,rfl⟩)|(go_at_call 80;refine(kB x.hn x.hs ad cap _ lo hi hfh fs (hcA _)).mono ?_;rintro e w1 ⟨rfl,q,rfl⟩));go_ret;exact⟨Ay HE.symm,by first|exact Am _ _|exact(Am _ _).trans ((BH _ _).mono Zc)⟩):P:=h
theorem SE (x:Ob)(now:Int)(ad:OA)(cap:Nat)(w:World)(lo hi:Nat)(hhi:hi<=w.1.size)(hf:Ef x)(hc:AB w lo hi ad x.hn x.hs):Calls prog 61 #[.agg (vO x ad cap),.i now] w λe w'=>e=.returned (.bool (Bg x now))/\Below w.1.size w w':=by obtain⟨fk,fn,ft,fh,fs,_⟩:=hf;have hfh:(x.hn:Int)<=140737488355328:=Za;have hcA:=λo=>hc.alloc hhi o;cases h1:Bv x.kind with
 |false=>have HE:=Ah (show Bg x now=false by simp[Bg,h1]);exact NE
 |true=>cases h2:Bv x.name with
  |false=>have HE:=Ah (show Bg x now=false by simp[Bg,h1,h2]);exact NE
  |true=>cases h3:EG x.ver 1 now with
   |false=>have HE:=Ah (show Bg x now=false by simp[Bg,h1,h2,h3]);exact NE
   |true=>cases h4:EG x.born 1 x.ver with
    |false=>have HE:=Ah (show Bg x now=false by simp[Bg,h1,h2,h3,h4]);exact NE
    |true=>
     by_cases h5:(x.text.size:Int)<=300;case neg=>have h5b:decide (x.text.size<=300)=false:=decide_eq_false Za;have HE:=Ah (show Bg x now=false by simp[Bg,h1,h2,h3,h4,h5b]);exact NE
     have h5b:decide (x.text.size<=300)=true:=decide_eq_true Za;by_cases h6:(x.hn:Int)<=5;case neg=>
      have h6b:EB x.hn x.hs=false:=by unfold EB;rw[decide_eq_false Za];rfl
      have HE:=Ah (show Bg x now=false by simp[Bg,h1,h2,h3,h4,h5b,h6b]);exact NE
     cases h7:Sw x.hn x.hs with
     |false=>
      have h6b:EB x.hn x.hs=false:=by unfold EB;rw[h7];simp
      have HE:=Ah (show Bg x now=false by simp[Bg,h1,h2,h3,h4,h5b,h6b]);exact NE
     |true=>
      have h6b:EB x.hn x.hs=true:=by unfold EB;rw[h7,decide_eq_true (show x.hn<=5 by omega)];rfl
      have HE:=Ah (show Bg x now=true by simp[Bg,h1,h2,h3,h4,h5b,h6b]);exact NE
theorem Om{P:Prop}(h:P:=by go_enter func47,ntmps47;go_wp2_with (first|(go_at_call 75;refine(LB _ _ (by first|exact fk|exact fn)).mono ?_;rintro e w1 ⟨rfl,rfl⟩)|(go_at_call 14;refine(KL _ _ _ _).mono ?_;rintro e w1 ⟨rfl,rfl⟩)|(go_at_call 76;refine(Tv x.hn x.hs ad cap _ lo hi hfh fs (hcA _)).mono ?_;rintro e w1 ⟨rfl,q,rfl⟩));go_ret;exact⟨Ay HE.symm,by first|exact Am _ _|exact(Am _ _).trans ((BH _ _).mono Zc)⟩):P:=h
theorem LS (x:Ob)(now:Int)(ad:OA)(cap:Nat)(w:World)(lo hi:Nat)(hhi:hi<=w.1.size)(hf:Ef x)(hc:AB w lo hi ad x.hn x.hs):Calls prog 47 #[.agg (vO x ad cap),.i now] w λe w'=>e=.returned (.bool (Bg x now))/\Below w.1.size w w':=by obtain⟨fk,fn,ft,fh,fs,_⟩:=hf;have hfh:(x.hn:Int)<=140737488355328:=Za;have hcA:=λo=>hc.alloc hhi o;cases h1:Bv x.kind with
 |false=>have HE:=Ah (show Bg x now=false by simp[Bg,h1]);exact Om
 |true=>cases h2:Bv x.name with
  |false=>have HE:=Ah (show Bg x now=false by simp[Bg,h1,h2]);exact Om
  |true=>cases h3:EG x.ver 1 now with
   |false=>have HE:=Ah (show Bg x now=false by simp[Bg,h1,h2,h3]);exact Om
   |true=>cases h4:EG x.born 1 x.ver with
    |false=>have HE:=Ah (show Bg x now=false by simp[Bg,h1,h2,h3,h4]);exact Om
    |true=>
     by_cases h5:(x.text.size:Int)<=300;case neg=>have h5b:decide (x.text.size<=300)=false:=decide_eq_false Za;have HE:=Ah (show Bg x now=false by simp[Bg,h1,h2,h3,h4,h5b]);exact Om
     have h5b:decide (x.text.size<=300)=true:=decide_eq_true Za;cases h6:EB x.hn x.hs with
     |false=>have HE:=Ah (show Bg x now=false by simp[Bg,h1,h2,h3,h4,h5b,h6]);exact Om
     |true=>have HE:=Ah (show Bg x now=true by simp[Bg,h1,h2,h3,h4,h5b,h6]);exact Om
theorem OH (x:Ob)(now:Int)(en:Bool)(hen:x.ending=en)(ad:OA)(cap:Nat)(w:World)(lo hi:Nat)(hhi:hi<=w.1.size)(hf:Ef x)(hc:AB w lo hi ad x.hn x.hs):Calls prog 61 #[.agg #[.s x.kind,.s x.name,.i x.ver,.i x.born,.s x.text,.bool en,.l ad x.hn cap],.i now] w λe w'=>e=.returned (.bool (Bg x now))/\Below w.1.size w w':=by subst hen;exact SE x now ad cap w lo hi hhi hf hc
theorem TP (x z:Ob)(e1 e2:Bool)(ad ad2:OA)(cap cap2:Nat)(w:World):Calls prog 62 #[.agg #[.s x.kind,.s x.name,.i x.ver,.i x.born,.s x.text,.bool e1,.l ad x.hn cap],.agg #[.s z.kind,.s z.name,.i z.ver,.i z.born,.s z.text,.bool e2,.l ad2 z.hn cap2]] w λe w'=>e=.returned (.i (Fs x z))/\Below w.1.size w w':=NZ ⟨x.kind,x.name,x.ver,x.born,x.text,e1,x.hn,x.hs⟩ ⟨z.kind,z.name,z.ver,z.born,z.text,e2,z.hn,z.hs⟩ ad ad2 cap cap2 w
end Go.Proofs.Ytnnjcenacidceaa
