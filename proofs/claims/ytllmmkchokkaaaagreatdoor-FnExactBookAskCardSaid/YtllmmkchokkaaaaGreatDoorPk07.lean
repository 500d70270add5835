import Derived.Test.YtllmmkchokkaaaaGreatDoorPk06
import Derived.Maps.OwnSet
import Derived.Maps.OwnOps
import Derived.ProofKit
set_option maxRecDepth 100000
set_option maxHeartbeats 1000000
namespace Go.Proofs.YtllmmkchokkaaaaGreatDoor
open Go.RowKit Go.Proofs.Tryz
def Oi(c:Ch):Bool:=!c.gone&&c.ob.born==c.ver
def Oo(c:Ch)(floor:Int):Bool:=Oi c||decide (c.ob.born<=floor)
def LA(p c:Ch):Bool:=if p.gone||Oi c then p.gone&&Oi c else p.ob.born==c.ob.born
def IA(c:Ch)(now:Int):Bool:=c.ob.ver==c.ver&&(BM c.ob now&&(if c.gone then PU c.ob else CX c.ob))
theorem Tk(c:Ch)(ad:OA)(cap:Nat)(w:World):Calls prog 129 #[.agg #[.i c.ver,.bool c.gone,.s c.ob.kind,.s c.ob.name,.i c.ob.ver,.i c.ob.born,.s c.ob.text,.bool c.ob.ending,.l ad c.ob.hn cap]] w λe w'=>e=.returned (.bool (Oi c))/\Below w.1.size w w':=by obtain⟨ve,go,ob⟩:=c;dsimp only;cases go with
 |true=>go_enter func129,ntmps129;go_wp2;go_ret;exact⟨rfl,An _ _⟩
 |false=>go_enter func129,ntmps129;go_wp2;go_ret;exact⟨Av (by simp[Oi]),An _ _⟩
theorem GY(c:Ch)(ad:OA)(cap:Nat)(w:World):Calls prog 179 #[.agg #[.i c.ver,.bool c.gone,.s c.ob.kind,.s c.ob.name,.i c.ob.ver,.i c.ob.born,.s c.ob.text,.bool c.ob.ending,.l ad c.ob.hn cap]] w λe w'=>e=.returned (.bool (Oi c))/\Below w.1.size w w':=by obtain⟨ve,go,ob⟩:=c;dsimp only;cases go with
 |true=>go_enter func179,ntmps179;go_wp2;go_ret;exact⟨rfl,An _ _⟩
 |false=>go_enter func179,ntmps179;go_wp2;go_ret;exact⟨Av (by simp[Oi]),An _ _⟩
theorem UQ{P:Prop}(h:P:=by go_ret;exact⟨Av HE.symm,(An _ _).trans (hb1.mono Ze)⟩):P:=h
theorem QK(c:Ch)(floor:Int)(ad:OA)(cap:Nat)(w:World):Calls prog 141 #[.agg #[.i c.ver,.bool c.gone,.s c.ob.kind,.s c.ob.name,.i c.ob.ver,.i c.ob.born,.s c.ob.text,.bool c.ob.ending,.l ad c.ob.hn cap],.i floor] w λe w'=>e=.returned (.bool (Oo c floor))/\Below w.1.size w w':=by cases hcr:Oi c with
 |true=>have HE:=Ai (show Oo c floor=true by unfold Oo;rw[hcr];rfl);go_enter func141,ntmps141;go_wp2_with(go_at_call 179;refine(GY c ad cap _).mono ?_;rintro e w1⟨rfl,hb1⟩);exact UQ
 |false=>have HE:=Ai (show Oo c floor=decide (c.ob.born<=floor)by unfold Oo;rw[hcr];rfl);go_enter func141,ntmps141;go_wp2_with(go_at_call 179;refine(GY c ad cap _).mono ?_;rintro e w1⟨rfl,hb1⟩;have k5:=Au hb1 5;simp only[Ah,Ad,Ab]at k5);exact UQ
theorem TK(c:Ch)(now:Int)(ad:OA)(cap:Nat)(w:World)(lo hi:Nat)(hhi:hi<=w.1.size)(hf:CW c.ob)(hc:AB w lo hi ad c.ob.hn c.ob.hs):Calls prog 138 #[.agg #[.i c.ver,.bool c.gone,.s c.ob.kind,.s c.ob.name,.i c.ob.ver,.i c.ob.born,.s c.ob.text,.bool c.ob.ending,.l ad c.ob.hn cap],.i now] w λe w'=>e=.returned (.bool (IA c now))/\Below w.1.size w w':=by
 obtain⟨ve,go,ob⟩:=c;dsimp only at hf hc⊢;have hcA:=λo=>hc.alloc hhi o;have hfh:(ob.hn:Int)<=140737488355328:=by have:=hf.h;omega
 by_cases hv:ob.ver=ve;.subst hv;cases hp:BM ob now with
  |false=>have HE:=Ai (show IA ⟨ob.ver,go,ob⟩ now=false by unfold IA;simp[hp]);go_enter func138,ntmps138;go_wp2_with(go_at_call 136;refine(GS ob now ad cap _ lo hi Zd hf (hcA _)).mono ?_;rintro e w1⟨rfl,hb1⟩;rw[hp]);exact UQ
  |true=>cases go with
   |true=>have HE:=Ai (show IA ⟨ob.ver,true,ob⟩ now=PU ob by unfold IA;simp[hp]);go_enter func138,ntmps138;go_wp2_with(go_at_call 136;refine(GS ob now ad cap _ lo hi Zd hf (hcA _)).mono ?_;rintro e w1⟨rfl,hb1⟩;have k1:=Au hb1 1;have k2:=Au hb1 2;have k3:=Au hb1 3;have k4:=Au hb1 4;have k5:=Au hb1 5;have k6:=Au hb1 6;have k7:=Au hb1 7;have k8:=Au hb1 8;simp only[Ah,Ad,Ab]at k1 k2 k3 k4 k5 k6 k7 k8;rw[hp]);go_wp2_with(go_at_call 178;refine(Qi ob ad cap _ hfh).mono ?_;rintro e w2⟨rfl,hb2⟩);go_ret;exact⟨Av HE.symm,(An _ _).trans ((hb1.mono Ze).trans (hb2.mono (by have:=hb1.size;simp at this;omega)))⟩
   |false=>have HE:=Ai (show IA ⟨ob.ver,false,ob⟩ now=CX ob by unfold IA;simp[hp]);go_enter func138,ntmps138;go_wp2_with(go_at_call 136;refine(GS ob now ad cap _ lo hi Zd hf (hcA _)).mono ?_;rintro e w1⟨rfl,hb1⟩;have k1:=Au hb1 1;have k2:=Au hb1 2;have k3:=Au hb1 3;have k4:=Au hb1 4;have k5:=Au hb1 5;have k6:=Au hb1 6;have k7:=Au hb1 7;have k8:=Au hb1 8;simp only[Ah,Ad,Ab]at k1 k2 k3 k4 k5 k6 k7 k8;rw[hp]);go_wp2_with(go_at_call 137;refine(Gb ob ad cap _ hfh).mono ?_;rintro e w2⟨rfl,hb2⟩);go_ret;exact⟨Av HE.symm,(An _ _).trans ((hb1.mono Ze).trans (hb2.mono (by have:=hb1.size;simp at this;omega)))⟩
 .have HE:=Ai (show IA ⟨ve,go,ob⟩ now=false by unfold IA;simp[hv]);have HV:=Ai hv;go_enter func138,ntmps138;go_wp2;go_ret;exact⟨Av HE.symm,An _ _⟩
end Go.Proofs.YtllmmkchokkaaaaGreatDoor
namespace Go.Proofs.YtllmmkchokkaaaaGreatDoor
open Go.RowKit Go.Proofs.Tryz
theorem AU{w w1:World}{c d:Array Value}{t u:TypeId}(hb:Below ((w.alloc (.cells c t)).alloc (.cells d u)).1.size ((w.alloc (.cells c t)).alloc (.cells d u)) w1)(i:Nat):w1.cell? ⟨w.1.size,i,none⟩=c[i]?:=(hb.cell (p:=⟨w.1.size,i,none⟩) Zd).trans (((An (w.alloc (.cells c t)) (.cells d u)).cell (p:=⟨w.1.size,i,none⟩) Ze).trans (At w c t i))
theorem UZ{P:Prop}(h:P:=by go_ret;exact⟨Av HE.symm,((An _ _).trans ((An _ _).mono Ze)).trans (hb1.mono Zd)⟩):P:=h
theorem PY (p c:Ch)(ad ad2:OA)(cap cap2:Nat)(w:World):Calls prog 140 #[.agg #[.i p.ver,.bool p.gone,.s p.ob.kind,.s p.ob.name,.i p.ob.ver,.i p.ob.born,.s p.ob.text,.bool p.ob.ending,.l ad p.ob.hn cap],.agg #[.i c.ver,.bool c.gone,.s c.ob.kind,.s c.ob.name,.i c.ob.ver,.i c.ob.born,.s c.ob.text,.bool c.ob.ending,.l ad2 c.ob.hn cap2]] w λe w'=>e=.returned (.bool (LA p c))/\Below w.1.size w w':=by obtain⟨pv,pg,po⟩:=p;dsimp only;cases pg with
 |true=>have HE:=Ai (show LA ⟨pv,true,po⟩ c=Oi c by unfold LA;simp);go_enter func140,ntmps140;go_wp2_with (go_at_call 179;refine(GY c ad2 cap2 _).mono ?_;rintro e w1⟨rfl,hb1⟩);exact UZ
 |false=>cases hcr:Oi c with
  |true=>have HE:=Ai (show LA ⟨pv,false,po⟩ c=false by unfold LA;simp[hcr]);go_enter func140,ntmps140;go_wp2_with (go_at_call 179;refine(GY c ad2 cap2 _).mono ?_;rintro e w1⟨rfl,hb1⟩;rw[hcr];have k1:=AU hb1 1;simp only[Ah,Ad,Ab]at k1);exact UZ
  |false=>have HE:=Ai (show LA ⟨pv,false,po⟩ c=(po.born==c.ob.born)by unfold LA;simp[hcr]);go_enter func140,ntmps140;go_wp2_with (go_at_call 179;refine(GY c ad2 cap2 _).mono ?_;rintro e w1⟨rfl,hb1⟩;rw[hcr];have k1:=AU hb1 5;have k2:w1.cell? ⟨w.1.size+1,5,none⟩=some (.i c.ob.born):=(by simpa using Au hb1 5);simp only[Ah,Ad,Ab]at k1);exact UZ
def Fh (now floor:Int)(n:Nat)(h:Nat->Ch):Bool:=decide (n<=200)&&(decide ((n:Int)=now-floor)&&Bi (λi=>decide ((h i).ver=floor+1+i)&&IA (h i) now) n)
theorem Dp.alloc{w:World}{lo hi:Nat}{ad:OA}{n:Nat}{x:Nat->Ch}(h:Dp w lo hi ad n x)(hhi:hi<=w.1.size)(o:Obj):Dp (w.alloc o) lo hi ad n x:=h.below (An w o) hhi
theorem MM (now floor:Int)(n:Nat)(h:Nat->Ch)(a1 a2 a3:OA)(n1 c1 c2 n3 c3:Nat)(w:World)(lo hi:Nat)(hhi:hi<=w.1.size)(hl:(n:Int)<=1099511627776)(hfl:0<=floor)(hno:floor<=now)(hnm:now<=1000000)(hf:∀i,i<n->CW (h i).ob)(hc:Dp w lo hi a2 n h):Calls prog 86 #[.agg #[.i now,.i floor,.l a1 n1 c1,.l a2 n c2,.l a3 n3 c3]] w λe w'=>e=.returned (.bool (Fh now floor n h))/\Below w.1.size w w':=by
 by_cases h200:(200:Int)<n;.have HE:=Ai (show Fh now floor n h=false by unfold Fh;rw[decide_eq_false Za];rfl);go_enter func86,ntmps86;go_wp2;go_ret;exact⟨Av HE.symm,An _ _⟩
 by_cases hnf:(n:Int)=now-floor;case neg=>have HE:=Ai (show Fh now floor n h=false by unfold Fh;rw[decide_eq_false hnf];simp);go_enter func86,ntmps86;go_wp2;go_ret;exact⟨Av HE.symm,An _ _⟩
 case pos=>
  have wW:=Ai hnf;have hnf2:now-floor=(n:Int):=Za;clear hnf;go_enter func86,ntmps86;go_wp2;go_loopw[23](λi wr=>∃k:Nat,k<=n/\i=.i k/\(∀j,j<k->(h j).ver=floor+1+j/\IA (h j) now=true)/\Below w.1.size w wr/\w.1.size<wr.1.size/\wr.cell? ⟨w.1.size,0,none⟩=some (.i now)/\wr.cell? ⟨w.1.size,1,none⟩=some (.i floor))(λi _=>n-(intOf i).toNat);case atStart=>exact⟨0,Ap _,rfl,λj hj=>absurd hj (Al _),An _ _,Ze,At _ _ _ _,At _ _ _ _⟩
  case round=>
   obtain⟨k,hk,rfl,hall,hb,hz,hb0,hb1⟩:=hrel;by_cases hkn:k<n
   .obtain⟨b,off,ah,ch,rfl,hlo,hbh,hcx,hsx⟩:=hc k hkn;have hfk:=hf k hkn;obtain⟨d0,d1,d2,d3,d4,d5,d6,d7,d8⟩:=hcx.below hb Za;have hs1:=hsx.below hb hhi;have HA:=Ai hall;clear hall hc hf hcx hsx;by_cases hv:(h k).ver=floor+1+k;case neg=>have HE:=Ai (show Fh now floor n h=false by unfold Fh;rw[A9 (p:=λi=>decide ((h i).ver=floor+1+i)&&IA (h i) now) hkn (by rw[decide_eq_false hv];rfl)];simp);go_wp2;go_ret;exact⟨Av HE.symm,hb.alloc hb.size _⟩
    case pos=>have HV:=Ai hv;clear hv;have hC:=TK (h k) now ah ch (wr.alloc (.cells #[.i (h k).ver,.bool (h k).gone,.s (h k).ob.kind,.s (h k).ob.name,.i (h k).ob.ver,.i (h k).ob.born,.s (h k).ob.text,.bool (h k).ob.ending,.l ah (h k).ob.hn ch] 120)) lo hi Yg hfk (hs1.alloc rD _);cases hp:IA (h k) now with
     |false=>have HE:=Ai (show Fh now floor n h=false by unfold Fh;rw[A9 (p:=λi=>decide ((h i).ver=floor+1+i)&&IA (h i) now) hkn (by rw[hp];simp)];simp);have hv:=HV.out;go_wp2_with fail;simp only[hv]at hC;refine hC.mono ?_;rintro e w2⟨rfl,hb2⟩;rw[hp];clear hC;go_wp2;go_ret;exact⟨Av HE.symm,(hb.alloc hb.size _).trans (hb2.mono Yg)⟩
     |true=>
      have HP:=Ai hp;have hv:=HV.out;go_wp2_with fail;simp only[hv]at hC;refine hC.mono ?_;rintro e w2⟨rfl,hb2⟩;rw[hp];clear hC;have hB2:Below w.1.size w w2:=(hb.alloc hb.size _).trans (hb2.mono Yg);have hz2:w.1.size<w2.1.size:=by have:=hb2.size;simp at this;omega
      have h00:w2.cell? ⟨w.1.size,0,none⟩=some (.i now):=(hb2.cell (p:=⟨w.1.size,0,none⟩) Zd).trans ((Ar _ _ _ hz).trans hb0);have h01:w2.cell? ⟨w.1.size,1,none⟩=some (.i floor):=(hb2.cell (p:=⟨w.1.size,1,none⟩) Zd).trans ((Ar _ _ _ hz).trans hb1);clear d0 d1 d2 d3 d4 d5 d6 d7 d8 hs1 hb2;go_wp2;go_roundw;case rel=>exact⟨k+1,Za,by go_num,λj hj=>(by
       rcases As j k with h3|h3;.exact HA j h3
       .have:j=k:=Za;subst this;exact⟨HV,HP⟩),hB2,hz2,h00,h01⟩
      case measure=>simp[intOf];omega
   .have HE:=Ai (show Fh now floor n h=true by unfold Fh;rw[decide_eq_true (show n<=200 by omega),decide_eq_true wW.out,Bm.2 (λi hi=>by rw[decide_eq_true (hall i Za).1,(hall i Za).2];rfl)];rfl);clear hall hc hf;go_wp2;go_ret;exact⟨Av HE.symm,hb⟩
end Go.Proofs.YtllmmkchokkaaaaGreatDoor
namespace Go.Proofs.YtllmmkchokkaaaaGreatDoor
open Go.RowKit Go.Maps Go.Proofs.Tryz
theorem IT:Keyed prog 3:=int_keyed underlying3
theorem iV (w:World):(zeroValue 183).run prog w=.ok (.agg #[]) w:=Zc
theorem Qm (n:Nat)(w:World):(Instr.makeMap 182 (some (.i (n:Int)))).run prog w=.ok (.map (some w.1.size)) (w.alloc (.map #[] 0)):=by simp[Instr.makeMap,run_underlying underlying182,asInt,asIntOf,Result.andThen]
def QO (x:Nat->Ob)(k:Nat)(v:Int):Bool:=!Bi (λj=>decide (¬(x j).ver=v)) k
def V5 (x:Nat->Ob)(k:Nat)(D:DataW Unit):Prop:=∀v:Int,(Lit.int .i64 v).wf=true->Maps.has D (.i v)=QO x k v
theorem SE (x:Nat->Ob):V5 x 0 (.map []):=λ_ _=>rfl
theorem Ye{x:Nat->Ob}{k:Nat}{D:DataW Unit}(h:V5 x k D)(hD:IsMap D)(hw:(Lit.int .i64 (x k).ver).wf=true):V5 x (k+1) (D.put (.i (x k).ver) (.agg [])):=λv hv=>by
 by_cases e:(x k).ver=v;.subst e;rw[has_put_same hD (IT.key (keyOf_int_mk underlying3 hw))];simp[QO,Bi]
 .rw[has_put_other (by intro h9;injection h9 with _ h9;exact e h9.symm),h v hv];simp[QO,Bi,e]
theorem BC{w w':World}{P:Program}{k:TypeId}{R:Value->Option (DataW Unit×List MemPlace)}{b n B:Nat}{D:DataW Unit}(h:w.ownsMap P k R b n D)(hb:Below B w w')(hB:b<B):w'.ownsMap P k R b n D:=by obtain⟨es,clock,h1,r⟩:=h;exact⟨es,clock,(hb.block b hB).trans h1,r⟩
theorem NO (now floor:Int)(n:Nat)(x:Nat->Ob)(a1 a2 a3:OA)(c1 n2 c2 n3 c3:Nat)(w:World)(lo hi:Nat)(hhi:hi<=w.1.size)(hl:(n:Int)<=1099511627776)(hf:∀i,i<n->CW (x i))(hc:BH w lo hi a1 n x):Calls prog 85 #[.agg #[.i now,.i floor,.l a1 n c1,.l a2 n2 c2,.l a3 n3 c3]] w λe w'=>e=.returned (.bool (ER n x))/\Below w.1.size w w':=by
 have hmm:=Qm n;go_enter func85,ntmps85;go_wp2_with fail;go_loopw[15](λi wr=>∃(k:Nat)(D:DataW Unit),k<=n/\i=.i k/\Below w.1.size w wr/\wr.ownsMap prog 3 unitElem (w.1.size+1) k D/\V5 x k D/\∀j,j<k->Bi (λk'=>decide (¬(x k').ver=(x j).ver)) j=true)(λi _=>n-(intOf i).toNat);case atStart=>have h9:=LY (H:=Unit) (w.alloc (.cells #[.i now,.i floor,.l a1 n c1,.l a2 n2 c2,.l a3 n3 c3] 35)) prog 3 unitElem;rw[AE]at h9;exact⟨0,.map [],Ap _,rfl,(An _ _).alloc Ze _,h9,SE x,λj hj=>absurd hj (Al _)⟩
 case round=>
  obtain⟨k,D,hk,rfl,hb,hown,htold,hall⟩:=hrel;clear hmm;by_cases hkn:k<n;.obtain⟨b,off,ah,ch,rfl,hlo,hbh,hcx,_⟩:=hc k hkn;have hwf:=(hf k hkn).v;obtain⟨d0,d1,d2,d3,d4,d5,d6⟩:=hcx.below hb Za;have hky:=keyOf_int_mk underlying3 hwf;have hhas:=htold _ hwf;have HT:=Ai (Ye htold hown.isMap hwf);have Gi:=Ai hown;have HA:=Ai hall;clear hc hf hcx htold hown hall;cases hs:QO x k (x k).ver with
   |true=>have HE:=Ai (show ER n x=false from A9 (p:=λi=>Bi (λk=>decide (¬(x k).ver=(x i).ver)) i) hkn (by simpa[QO]using hs));rw[hs]at hhas;clear hs;go_wp2_with (at_lookup;go_must(refine wpList_lookup_own_unit _ rfl _ _ 182 rfl 3 183 IT underlying182 (iV _) (w.1.size+1) k D rfl (Gi.alloc _) _ _ rfl hky ?_));go_ret;exact⟨Av HE.symm,(hb.alloc hb.size _).alloc Yg _⟩
   |false=>
    have HN:=Ai (show Bi (λk'=>decide (¬(x k').ver=(x k).ver)) k=true by simpa[QO]using hs);rw[hs]at hhas;clear hs;have hsz:=hb.size;have hlt:=Gi.lt;go_wp2_with (first|(at_lookup;go_must(refine wpList_lookup_own_unit _ rfl _ _ 182 rfl 3 183 IT underlying182 (iV _) (w.1.size+1) k D rfl (Gi.alloc _) _ _ rfl hky ?_))|(at_mapUpdate;go_must(refine wpList_mapUpdate_own _ rfl _ _ _ 182 rfl 3 183 IT underlying182 _ (w.1.size+1) k D rfl ((Gi.alloc _).alloc _) Zn _ _ _ rfl rfl hky _ [] unitElem_mk ?_;intro w3 hown3 hgrow3)));go_roundw;case rel=>exact⟨k+1,_,Za,by go_num,((hb.alloc hb.size _).alloc Zd _).grown hgrow3 Zd (λj hj=>by cases hj;omega),hown3,HT,λj hj=>(by
     rcases As j k with h3|h3;.exact HA j h3
     .have:j=k:=Za;subst this;exact HN)⟩
    case measure=>simp[intOf];omega
  .have HE:=Ai (show ER n x=true from Bm.2 (λi hi=>hall i Za));clear hc hf hown htold hall;go_wp2;go_ret;exact⟨Av HE.symm,hb⟩
end Go.Proofs.YtllmmkchokkaaaaGreatDoor
