import Derived.Test.YtofencldleijcaaGreatPk07
import Derived.Maps.OwnSet
import Derived.Maps.OwnOps
import Derived.ProofKit
set_option maxRecDepth 100000
set_option maxHeartbeats 1000000
namespace Go.Proofs.YtofencldleijcaaGreat
open Go.RowKit Go.Proofs.Tryz
theorem AI{w w1:World}{c d:Array Value}{t u:TypeId}(hb:Below ((w.alloc (.cells c t)).alloc (.cells d u)).1.size ((w.alloc (.cells c t)).alloc (.cells d u)) w1)(i:Nat):w1.cell? ⟨w.1.size,i,none⟩=c[i]?:=(hb.cell (p:=⟨w.1.size,i,none⟩) Zd).trans (((Am (w.alloc (.cells c t)) (.cells d u)).cell (p:=⟨w.1.size,i,none⟩) Zc).trans (Ao w c t i))
theorem Sn{P:Prop}(h:P:=by go_ret;exact⟨Av HE.symm,((Am _ _).trans ((Am _ _).mono Zc)).trans (hb1.mono Zd)⟩):P:=h
theorem NN (p c:Ch)(ad ad2:OA)(cap cap2:Nat)(w:World):Calls prog 77 #[.agg #[.i p.ver,.bool p.gone,.s p.ob.kind,.s p.ob.name,.i p.ob.ver,.i p.ob.born,.s p.ob.text,.bool p.ob.ending,.l ad p.ob.hn cap],.agg #[.i c.ver,.bool c.gone,.s c.ob.kind,.s c.ob.name,.i c.ob.ver,.i c.ob.born,.s c.ob.text,.bool c.ob.ending,.l ad2 c.ob.hn cap2]] w λe w'=>e=.returned (.bool (Gf p c))/\Below w.1.size w w':=by obtain⟨pv,pg,po⟩:=p;dsimp only;cases pg with
 |true=>have HE:=Ag (show Gf ⟨pv,true,po⟩ c=FK c by unfold Gf;simp);go_enter func77,ntmps77;go_wp2_with (go_at_call 59;refine(EP c ad2 cap2 _).mono ?_;rintro e w1 ⟨rfl,hb1⟩);exact Sn
 |false=>cases hcr:FK c with
  |true=>have HE:=Ag (show Gf ⟨pv,false,po⟩ c=false by unfold Gf;simp[hcr]);go_enter func77,ntmps77;go_wp2_with (go_at_call 59;refine(EP c ad2 cap2 _).mono ?_;rintro e w1 ⟨rfl,hb1⟩;rw[hcr];have k1:=AI hb1 1;simp only[Ac,Ab,Aa]at k1);exact Sn
  |false=>have HE:=Ag (show Gf ⟨pv,false,po⟩ c=(po.born==c.ob.born)by unfold Gf;simp[hcr]);go_enter func77,ntmps77;go_wp2_with (go_at_call 59;refine(EP c ad2 cap2 _).mono ?_;rintro e w1 ⟨rfl,hb1⟩;rw[hcr];have k1:=AI hb1 5;have k2:w1.cell? ⟨w.1.size+1,5,none⟩=some (.i c.ob.born):=(by simpa using As hb1 5);simp only[Ac,Ab,Aa]at k1);exact Sn
def EQ (now floor:Int)(n:Nat)(h:Nat->Ch):Bool:=decide (n<=200)&&(decide ((n:Int)=now-floor)&&Be (λi=>decide ((h i).ver=floor+1+i)&&E5 (h i) now) n)
theorem Dr.alloc{w:World}{lo hi:Nat}{ad:OA}{n:Nat}{x:Nat->Ch}(h:Dr w lo hi ad n x)(hhi:hi<=w.1.size)(o:Obj):Dr (w.alloc o) lo hi ad n x:=h.below (Am w o) hhi
theorem K2 (now floor:Int)(n:Nat)(h:Nat->Ch)(a1 a2 a3:OA)(n1 c1 c2 n3 c3:Nat)(w:World)(lo hi:Nat)(hhi:hi<=w.1.size)(hl:(n:Int)<=1099511627776)(hfl:0<=floor)(hno:floor<=now)(hnm:now<=1000000)(hf:∀i,i<n->DD (h i).ob)(hc:Dr w lo hi a2 n h):Calls prog 49 #[.agg #[.i now,.i floor,.l a1 n1 c1,.l a2 n c2,.l a3 n3 c3]] w λe w'=>e=.returned (.bool (EQ now floor n h))/\Below w.1.size w w':=by
 by_cases h200:(200:Int)<n;.have HE:=Ag (show EQ now floor n h=false by unfold EQ;rw[decide_eq_false Zb];rfl);go_enter func49,ntmps49;go_wp2;go_ret;exact⟨Av HE.symm,Am _ _⟩
 by_cases hnf:(n:Int)=now-floor;case neg=>have HE:=Ag (show EQ now floor n h=false by unfold EQ;rw[decide_eq_false hnf];simp);go_enter func49,ntmps49;go_wp2;go_ret;exact⟨Av HE.symm,Am _ _⟩
 case pos=>
  have m7:=Ag hnf;have hnf2:now-floor=(n:Int):=Zb;clear hnf;go_enter func49,ntmps49;go_wp2;go_loopw[23](λi wr=>∃k:Nat,k<=n/\i=.i k/\(∀j,j<k->(h j).ver=floor+1+j/\E5 (h j) now=true)/\Below w.1.size w wr/\w.1.size<wr.1.size/\wr.cell? ⟨w.1.size,0,none⟩=some (.i now)/\wr.cell? ⟨w.1.size,1,none⟩=some (.i floor))(λi _=>n-(intOf i).toNat);case atStart=>exact⟨0,Aw _,rfl,λj hj=>absurd hj (Ai _),Am _ _,Zc,Ao _ _ _ _,Ao _ _ _ _⟩
  case round=>
   obtain⟨k,hk,rfl,hall,hb,hz,hb0,hb1⟩:=hrel;by_cases hkn:k<n
   .obtain⟨b,off,ah,ch,rfl,hlo,hbh,hcx,hsx⟩:=hc k hkn;have hfk:=hf k hkn;obtain⟨d0,d1,d2,d3,d4,d5,d6,d7,d8⟩:=hcx.below hb Zb;have hs1:=hsx.below hb hhi;have HA:=Ag hall;clear hall hc hf hcx hsx;by_cases hv:(h k).ver=floor+1+k;case neg=>have HE:=Ag (show EQ now floor n h=false by unfold EQ;rw[AV (p:=λi=>decide ((h i).ver=floor+1+i)&&E5 (h i) now) hkn (by rw[decide_eq_false hv];rfl)];simp);go_wp2;go_ret;exact⟨Av HE.symm,hb.alloc hb.size _⟩
    case pos=>have HV:=Ag hv;clear hv;have hC:=QT (h k) now ah ch (wr.alloc (.cells #[.i (h k).ver,.bool (h k).gone,.s (h k).ob.kind,.s (h k).ob.name,.i (h k).ob.ver,.i (h k).ob.born,.s (h k).ob.text,.bool (h k).ob.ending,.l ah (h k).ob.hn ch] 63)) lo hi Vr hfk (hs1.alloc (by have:=hb.size;omega) _);cases hp:E5 (h k) now with
     |false=>have HE:=Ag (show EQ now floor n h=false by unfold EQ;rw[AV (p:=λi=>decide ((h i).ver=floor+1+i)&&E5 (h i) now) hkn (by rw[hp];simp)];simp);have hv:=HV.out;go_wp2_with fail;simp only[hv]at hC;refine hC.mono ?_;rintro e w2 ⟨rfl,hb2⟩;rw[hp];clear hC;go_wp2;go_ret;exact⟨Av HE.symm,(hb.alloc hb.size _).trans (hb2.mono Vr)⟩
     |true=>
      have HP:=Ag hp;have hv:=HV.out;go_wp2_with fail;simp only[hv]at hC;refine hC.mono ?_;rintro e w2 ⟨rfl,hb2⟩;rw[hp];clear hC;have hB2:Below w.1.size w w2:=(hb.alloc hb.size _).trans (hb2.mono Vr);have hz2:w.1.size<w2.1.size:=by have:=hb2.size;simp at this;omega
      have h00:w2.cell? ⟨w.1.size,0,none⟩=some (.i now):=(hb2.cell (p:=⟨w.1.size,0,none⟩) Zd).trans ((Aq _ _ _ hz).trans hb0);have h01:w2.cell? ⟨w.1.size,1,none⟩=some (.i floor):=(hb2.cell (p:=⟨w.1.size,1,none⟩) Zd).trans ((Aq _ _ _ hz).trans hb1);clear d0 d1 d2 d3 d4 d5 d6 d7 d8 hs1 hb2;go_wp2;go_roundw;case rel=>exact⟨k+1,Zb,by go_num,λj hj=>(by
       rcases At j k with h3|h3;.exact HA j h3
       .have:j=k:=Zb;subst this;exact⟨HV,HP⟩),hB2,hz2,h00,h01⟩
      case measure=>simp[intOf];omega
   .have HE:=Ag (show EQ now floor n h=true by unfold EQ;rw[decide_eq_true (show n<=200 by omega),decide_eq_true m7.out,AC.2 (λi hi=>by rw[decide_eq_true (hall i Zb).1,(hall i Zb).2];rfl)];rfl);clear hall hc hf;go_wp2;go_ret;exact⟨Av HE.symm,hb⟩
end Go.Proofs.YtofencldleijcaaGreat
namespace Go.Proofs.YtofencldleijcaaGreat
open Go.RowKit Go.Maps Go.Proofs.Tryz
theorem IL:Keyed prog 3:=int_keyed underlying3
theorem WZ (w:World):(zeroValue 127).run prog w=.ok (.agg #[]) w:=Ze
theorem OC (n:Nat)(w:World):(Instr.makeMap 126 (some (.i (n:Int)))).run prog w=.ok (.map (some w.1.size)) (w.alloc (.map #[] 0)):=by simp[Instr.makeMap,run_underlying underlying126,asInt,asIntOf,Result.andThen]
def OV (x:Nat->Ob)(k:Nat)(v:Int):Bool:=!Be (λj=>decide (¬(x j).ver=v)) k
def TH (x:Nat->Ob)(k:Nat)(D:DataW Unit):Prop:=∀v:Int,(Lit.int .i64 v).wf=true->Maps.has D (.i v)=OV x k v
theorem Rj (x:Nat->Ob):TH x 0 (.map []):=λ_ _=>rfl
theorem UU{x:Nat->Ob}{k:Nat}{D:DataW Unit}(h:TH x k D)(hD:IsMap D)(hw:(Lit.int .i64 (x k).ver).wf=true):TH x (k+1) (D.put (.i (x k).ver) (.agg [])):=λv hv=>by
 by_cases e:(x k).ver=v;.subst e;rw[has_put_same hD (IL.key (keyOf_int_mk underlying3 hw))];simp[OV,Be]
 .rw[has_put_other (by intro h9;injection h9 with _ h9;exact e h9.symm),h v hv];simp[OV,Be,e]
theorem AQ{w w':World}{P:Program}{k:TypeId}{R:Value->Option (DataW Unit×List MemPlace)}{b n B:Nat}{D:DataW Unit}(h:w.ownsMap P k R b n D)(hb:Below B w w')(hB:b<B):w'.ownsMap P k R b n D:=by obtain⟨es,clock,h1,r⟩:=h;exact⟨es,clock,(hb.block b hB).trans h1,r⟩
theorem Mh (now floor:Int)(n:Nat)(x:Nat->Ob)(a1 a2 a3:OA)(c1 n2 c2 n3 c3:Nat)(w:World)(lo hi:Nat)(hhi:hi<=w.1.size)(hl:(n:Int)<=1099511627776)(hf:∀i,i<n->DD (x i))(hc:Bs w lo hi a1 n x):Calls prog 48 #[.agg #[.i now,.i floor,.l a1 n c1,.l a2 n2 c2,.l a3 n3 c3]] w λe w'=>e=.returned (.bool (DV n x))/\Below w.1.size w w':=by
 have hmm:=OC n;go_enter func48,ntmps48;go_wp2_with fail;go_loopw[15](λi wr=>∃(k:Nat)(D:DataW Unit),k<=n/\i=.i k/\Below w.1.size w wr/\wr.ownsMap prog 3 unitElem (w.1.size+1) k D/\TH x k D/\∀j,j<k->Be (λk'=>decide (¬(x k').ver=(x j).ver)) j=true)(λi _=>n-(intOf i).toNat);case atStart=>have h9:=H8 (H:=Unit) (w.alloc (.cells #[.i now,.i floor,.l a1 n c1,.l a2 n2 c2,.l a3 n3 c3] 27)) prog 3 unitElem;rw[Au]at h9;exact⟨0,.map [],Aw _,rfl,(Am _ _).alloc Zc _,h9,Rj x,λj hj=>absurd hj (Ai _)⟩
 case round=>
  obtain⟨k,D,hk,rfl,hb,hown,htold,hall⟩:=hrel;clear hmm;by_cases hkn:k<n;.obtain⟨b,off,ah,ch,rfl,hlo,hbh,hcx,_⟩:=hc k hkn;have hwf:=(hf k hkn).v;obtain⟨d0,d1,d2,d3,d4,d5,d6⟩:=hcx.below hb Zb;have hky:=keyOf_int_mk underlying3 hwf;have hhas:=htold _ hwf;have HT:=Ag (UU htold hown.isMap hwf);have JJ:=Ag hown;have HA:=Ag hall;clear hc hf hcx htold hown hall;cases hs:OV x k (x k).ver with
   |true=>have HE:=Ag (show DV n x=false from AV (p:=λi=>Be (λk=>decide (¬(x k).ver=(x i).ver)) i) hkn (by simpa[OV]using hs));rw[hs]at hhas;clear hs;go_wp2_with (at_lookup;go_must(refine wpList_lookup_own_unit _ rfl _ _ 126 rfl 3 127 IL underlying126 (WZ _) (w.1.size+1) k D rfl (JJ.alloc _) _ _ rfl hky ?_));go_ret;exact⟨Av HE.symm,(hb.alloc hb.size _).alloc Vr _⟩
   |false=>
    have HN:=Ag (show Be (λk'=>decide (¬(x k').ver=(x k).ver)) k=true by simpa[OV]using hs);rw[hs]at hhas;clear hs;have hsz:=hb.size;have hlt:=JJ.lt;go_wp2_with (first|(at_lookup;go_must(refine wpList_lookup_own_unit _ rfl _ _ 126 rfl 3 127 IL underlying126 (WZ _) (w.1.size+1) k D rfl (JJ.alloc _) _ _ rfl hky ?_))|(at_mapUpdate;go_must(refine wpList_mapUpdate_own _ rfl _ _ _ 126 rfl 3 127 IL underlying126 _ (w.1.size+1) k D rfl ((JJ.alloc _).alloc _) Zs _ _ _ rfl rfl hky _ [] unitElem_mk ?_;intro w3 hown3 hgrow3)));go_roundw;case rel=>exact⟨k+1,_,Zb,by go_num,((hb.alloc hb.size _).alloc Zd _).grown hgrow3 Zd (λj hj=>by cases hj;omega),hown3,HT,λj hj=>(by
     rcases At j k with h3|h3;.exact HA j h3
     .have:j=k:=Zb;subst this;exact HN)⟩
    case measure=>simp[intOf];omega
  .have HE:=Ag (show DV n x=true from AC.2 (λi hi=>hall i Zb));clear hc hf hown htold hall;go_wp2;go_ret;exact⟨Av HE.symm,hb⟩
end Go.Proofs.YtofencldleijcaaGreat
