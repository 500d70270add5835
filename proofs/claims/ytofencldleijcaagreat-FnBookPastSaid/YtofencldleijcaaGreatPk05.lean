import Derived.Test.YtofencldleijcaaGreatPk02
import Derived.Test.YtofencldleijcaaGreatPk03
set_option maxRecDepth 100000
set_option maxHeartbeats 1000000
namespace Go.Proofs.YtofencldleijcaaGreat
open Go.RowKit Go.Proofs.Tryz
structure GW (w:World)where
 val:World
 prop:Below w.1.size w val
theorem AA{P:Program}{id:Nat}{Q:Exit->Act->World->Prop}{a:Act}{w:World}{l:List Oper}(hm:P.follows .mixedOrders=true)(hB:Region.lexB .any l.toArray=true)(h:wpQuiet P l.toArray (λw'=>∃u:GW w,w'=u.val) (λa'=>∀w',(∃u:GW w,w'=u.val)->Q .normal a' w') l a):(Code.region id l.toArray true).wp P Q a w:=wp_region_quiet (C:=λw'=>∃u:GW w,w'=u.val) hm hB ⟨⟨w.drew,(Al _ _).drew⟩,rfl⟩ TX
theorem Bf{P:Program}{f:FuncId}{args:Array Value}{w:World}{v:Value}{u:GW w}(h:Calls P f args u.val λe w'=>e=.returned v/\Below u.val.1.size u.val w'):Calls P f args u.val λe w''=>e=.returned v/\∃u':GW w,w''=u'.val:=h.mono λ_ w'' ⟨he,hb⟩=>⟨he,⟨w'',u.prop.trans (hb.mono u.prop.size)⟩,rfl⟩
theorem Ah{W1:World}{p:Addr}{v:Value}(h:W1.cell? p=some v)(hp:p.block<W1.1.size):∀u:GW W1,u.val.cell? p=some v:=λu=>(u.prop.cell hp).trans h
def Bh (x:Ob)(now:Int):Bool:=By x.kind&&(By x.name&&(DW x.ver 1 now&&(DW x.born 1 x.ver&&(decide (x.text.size<=300)&&DP x.hn x.hs))))
theorem BJ (w:World)(q:Nat):Below w.1.size w (w.drewN q):=⟨rfl,rfl,rfl,Az _,λ_ _=>rfl⟩
theorem JT{P:Prop}(h:P:=by go_enter func70,ntmps70;go_wp2_with (first|(go_at_call 64;refine(AU _ _ (by first|exact fk|exact fn)).mono ?_;rintro e w1 ⟨rfl,rfl⟩)|(go_at_call 28;refine(BY _ _ _ _).mono ?_;rintro e w1 ⟨rfl,rfl⟩)|(go_at_call 99;refine(Z2 x.hn x.hs ad cap _ lo hi hfh fs (hcA _)).mono ?_;rintro e w1 ⟨rfl,q,rfl⟩));go_ret;exact⟨Av HE.symm,by first|exact Am _ _|exact(Am _ _).trans ((BJ _ _).mono Zc)⟩):P:=h
theorem OI (x:Ob)(now:Int)(ad:OA)(cap:Nat)(w:World)(lo hi:Nat)(hhi:hi<=w.1.size)(hf:DD x)(hc:Ax w lo hi ad x.hn x.hs):Calls prog 70 #[.agg (vO x ad cap),.i now] w λe w'=>e=.returned (.bool (Bh x now))/\Below w.1.size w w':=by obtain⟨fk,fn,ft,fh,fs,_⟩:=hf;have hfh:(x.hn:Int)<=140737488355328:=Zb;have hcA:=λo=>hc.alloc hhi o;cases h1:By x.kind with
 |false=>have HE:=Ag (show Bh x now=false by simp[Bh,h1]);exact JT
 |true=>cases h2:By x.name with
  |false=>have HE:=Ag (show Bh x now=false by simp[Bh,h1,h2]);exact JT
  |true=>cases h3:DW x.ver 1 now with
   |false=>have HE:=Ag (show Bh x now=false by simp[Bh,h1,h2,h3]);exact JT
   |true=>cases h4:DW x.born 1 x.ver with
    |false=>have HE:=Ag (show Bh x now=false by simp[Bh,h1,h2,h3,h4]);exact JT
    |true=>
     by_cases h5:(x.text.size:Int)<=300;case neg=>have h5b:decide (x.text.size<=300)=false:=decide_eq_false Zb;have HE:=Ag (show Bh x now=false by simp[Bh,h1,h2,h3,h4,h5b]);exact JT
     have h5b:decide (x.text.size<=300)=true:=decide_eq_true Zb;by_cases h6:(x.hn:Int)<=5;case neg=>
      have h6b:DP x.hn x.hs=false:=by unfold DP;rw[decide_eq_false Zb];rfl
      have HE:=Ag (show Bh x now=false by simp[Bh,h1,h2,h3,h4,h5b,h6b]);exact JT
     cases h7:OB x.hn x.hs with
     |false=>
      have h6b:DP x.hn x.hs=false:=by unfold DP;rw[h7];simp
      have HE:=Ag (show Bh x now=false by simp[Bh,h1,h2,h3,h4,h5b,h6b]);exact JT
     |true=>
      have h6b:DP x.hn x.hs=true:=by unfold DP;rw[h7,decide_eq_true (show x.hn<=5 by omega)];rfl
      have HE:=Ag (show Bh x now=true by simp[Bh,h1,h2,h3,h4,h5b,h6b]);exact JT
theorem KF{P:Prop}(h:P:=by go_enter func74,ntmps74;go_wp2_with (first|(go_at_call 100;refine(Gc _ _ (by first|exact fk|exact fn)).mono ?_;rintro e w1 ⟨rfl,rfl⟩)|(go_at_call 18;refine(Fo _ _ _ _).mono ?_;rintro e w1 ⟨rfl,rfl⟩)|(go_at_call 101;refine(Pq x.hn x.hs ad cap _ lo hi hfh fs (hcA _)).mono ?_;rintro e w1 ⟨rfl,q,rfl⟩));go_ret;exact⟨Av HE.symm,by first|exact Am _ _|exact(Am _ _).trans ((BJ _ _).mono Zc)⟩):P:=h
theorem Gt (x:Ob)(now:Int)(ad:OA)(cap:Nat)(w:World)(lo hi:Nat)(hhi:hi<=w.1.size)(hf:DD x)(hc:Ax w lo hi ad x.hn x.hs):Calls prog 74 #[.agg (vO x ad cap),.i now] w λe w'=>e=.returned (.bool (Bh x now))/\Below w.1.size w w':=by obtain⟨fk,fn,ft,fh,fs,_⟩:=hf;have hfh:(x.hn:Int)<=140737488355328:=Zb;have hcA:=λo=>hc.alloc hhi o;cases h1:By x.kind with
 |false=>have HE:=Ag (show Bh x now=false by simp[Bh,h1]);exact KF
 |true=>cases h2:By x.name with
  |false=>have HE:=Ag (show Bh x now=false by simp[Bh,h1,h2]);exact KF
  |true=>cases h3:DW x.ver 1 now with
   |false=>have HE:=Ag (show Bh x now=false by simp[Bh,h1,h2,h3]);exact KF
   |true=>cases h4:DW x.born 1 x.ver with
    |false=>have HE:=Ag (show Bh x now=false by simp[Bh,h1,h2,h3,h4]);exact KF
    |true=>
     by_cases h5:(x.text.size:Int)<=300;case neg=>have h5b:decide (x.text.size<=300)=false:=decide_eq_false Zb;have HE:=Ag (show Bh x now=false by simp[Bh,h1,h2,h3,h4,h5b]);exact KF
     have h5b:decide (x.text.size<=300)=true:=decide_eq_true Zb;cases h6:DP x.hn x.hs with
     |false=>have HE:=Ag (show Bh x now=false by simp[Bh,h1,h2,h3,h4,h5b,h6]);exact KF
     |true=>have HE:=Ag (show Bh x now=true by simp[Bh,h1,h2,h3,h4,h5b,h6]);exact KF
theorem K4 (x:Ob)(now:Int)(en:Bool)(hen:x.ending=en)(ad:OA)(cap:Nat)(w:World)(lo hi:Nat)(hhi:hi<=w.1.size)(hf:DD x)(hc:Ax w lo hi ad x.hn x.hs):Calls prog 70 #[.agg #[.s x.kind,.s x.name,.i x.ver,.i x.born,.s x.text,.bool en,.l ad x.hn cap],.i now] w λe w'=>e=.returned (.bool (Bh x now))/\Below w.1.size w w':=by subst hen;exact OI x now ad cap w lo hi hhi hf hc
theorem PA (x z:Ob)(e1 e2:Bool)(ad ad2:OA)(cap cap2:Nat)(w:World):Calls prog 60 #[.agg #[.s x.kind,.s x.name,.i x.ver,.i x.born,.s x.text,.bool e1,.l ad x.hn cap],.agg #[.s z.kind,.s z.name,.i z.ver,.i z.born,.s z.text,.bool e2,.l ad2 z.hn cap2]] w λe w'=>e=.returned (.i (D8 x z))/\Below w.1.size w w':=MU ⟨x.kind,x.name,x.ver,x.born,x.text,e1,x.hn,x.hs⟩ ⟨z.kind,z.name,z.ver,z.born,z.text,e2,z.hn,z.hs⟩ ad ad2 cap cap2 w
end Go.Proofs.YtofencldleijcaaGreat
