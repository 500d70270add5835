import Derived.Test.YtnnjcenacidceaaGreatPk08
import Derived.Maps.OwnSet
import Derived.Maps.OwnOps
import Derived.ProofKit
set_option maxRecDepth 100000
set_option maxHeartbeats 1000000
namespace Go.Proofs.YtnnjcenacidceaaGreat
open Go.RowKit Go.Proofs.Tryz
theorem AX{w w1:World}{c d:Array Value}{t u:TypeId}(hb:Below ((w.alloc (.cells c t)).alloc (.cells d u)).1.size ((w.alloc (.cells c t)).alloc (.cells d u)) w1)(i:Nat):w1.cell? ⟨w.1.size,i,none⟩=c[i]?:=(hb.cell (p:=⟨w.1.size,i,none⟩) Zd).trans (((An (w.alloc (.cells c t)) (.cells d u)).cell (p:=⟨w.1.size,i,none⟩) Zc).trans (Al w c t i))
theorem Wi{P:Prop}(h:P:=by go_ret;exact⟨Az HE.symm,((An _ _).trans ((An _ _).mono Zc)).trans (hb1.mono Zd)⟩):P:=h
theorem Rj (p c:Ch)(ad ad2:OA)(cap cap2:Nat)(w:World):Calls prog 65 #[.agg #[.i p.ver,.bool p.gone,.s p.ob.kind,.s p.ob.name,.i p.ob.ver,.i p.ob.born,.s p.ob.text,.bool p.ob.ending,.l ad p.ob.hn cap],.agg #[.i c.ver,.bool c.gone,.s c.ob.kind,.s c.ob.name,.i c.ob.ver,.i c.ob.born,.s c.ob.text,.bool c.ob.ending,.l ad2 c.ob.hn cap2]] w λe w'=>e=.returned (.bool (Mg p c))/\Below w.1.size w w':=by obtain⟨pv,pg,po⟩:=p;dsimp only;cases pg with
 |true=>have HE:=Aj (show Mg ⟨pv,true,po⟩ c=OT c by unfold Mg;simp);go_enter func65,ntmps65;go_wp2_with (go_at_call 86;refine(Mf c ad2 cap2 _).mono ?_;rintro e w1 ⟨rfl,hb1⟩);exact Wi
 |false=>cases hcr:OT c with
  |true=>have HE:=Aj (show Mg ⟨pv,false,po⟩ c=false by unfold Mg;simp[hcr]);go_enter func65,ntmps65;go_wp2_with (go_at_call 86;refine(Mf c ad2 cap2 _).mono ?_;rintro e w1 ⟨rfl,hb1⟩;rw[hcr];have k1:=AX hb1 1;simp only[Ag,Af,Ae]at k1);exact Wi
  |false=>have HE:=Aj (show Mg ⟨pv,false,po⟩ c=(po.born==c.ob.born)by unfold Mg;simp[hcr]);go_enter func65,ntmps65;go_wp2_with (go_at_call 86;refine(Mf c ad2 cap2 _).mono ?_;rintro e w1 ⟨rfl,hb1⟩;rw[hcr];have k1:=AX hb1 5;have k2:w1.cell? ⟨w.1.size+1,5,none⟩=some (.i c.ob.born):=(by simpa using Au hb1 5);simp only[Ag,Af,Ae]at k1);exact Wi
def KW (now floor:Int)(n:Nat)(h:Nat->Ch):Bool:=decide (n<=200)&&(decide ((n:Int)=now-floor)&&Bg (λi=>decide ((h i).ver=floor+1+i)&&Lx (h i) now) n)
theorem CB.alloc{w:World}{lo hi:Nat}{ad:OA}{n:Nat}{x:Nat->Ch}(h:CB w lo hi ad n x)(hhi:hi<=w.1.size)(o:Obj):CB (w.alloc o) lo hi ad n x:=h.below (An w o) hhi
theorem PF (now floor:Int)(n:Nat)(h:Nat->Ch)(a1 a2 a3:OA)(n1 c1 c2 n3 c3:Nat)(w:World)(lo hi:Nat)(hhi:hi<=w.1.size)(hl:(n:Int)<=1099511627776)(hfl:0<=floor)(hno:floor<=now)(hnm:now<=1000000)(hf:∀i,i<n->Ec (h i).ob)(hc:CB w lo hi a2 n h):Calls prog 33 #[.agg #[.i now,.i floor,.l a1 n1 c1,.l a2 n c2,.l a3 n3 c3]] w λe w'=>e=.returned (.bool (KW now floor n h))/\Below w.1.size w w':=by
 by_cases h200:(200:Int)<n;.have HE:=Aj (show KW now floor n h=false by unfold KW;rw[decide_eq_false Za];rfl);go_enter func33,ntmps33;go_wp2;go_ret;exact⟨Az HE.symm,An _ _⟩
 by_cases hnf:(n:Int)=now-floor;case neg=>have HE:=Aj (show KW now floor n h=false by unfold KW;rw[decide_eq_false hnf];simp);go_enter func33,ntmps33;go_wp2;go_ret;exact⟨Az HE.symm,An _ _⟩
 case pos=>
  have wE:=Aj hnf;have hnf2:now-floor=(n:Int):=Za;clear hnf;go_enter func33,ntmps33;go_wp2;go_loopw[23](λi wr=>∃k:Nat,k<=n/\i=.i k/\(∀j,j<k->(h j).ver=floor+1+j/\Lx (h j) now=true)/\Below w.1.size w wr/\w.1.size<wr.1.size/\wr.cell? ⟨w.1.size,0,none⟩=some (.i now)/\wr.cell? ⟨w.1.size,1,none⟩=some (.i floor))(λi _=>n-(intOf i).toNat);case atStart=>exact⟨0,At _,rfl,λj hj=>absurd hj (Ai _),An _ _,Zc,Al _ _ _ _,Al _ _ _ _⟩
  case round=>
   obtain⟨k,hk,rfl,hall,hb,hz,hb0,hb1⟩:=hrel;by_cases hkn:k<n
   .obtain⟨b,off,ah,ch,rfl,hlo,hbh,hcx,hsx⟩:=hc k hkn;have hfk:=hf k hkn;obtain⟨d0,d1,d2,d3,d4,d5,d6,d7,d8⟩:=hcx.below hb Za;have hs1:=hsx.below hb hhi;have HA:=Aj hall;clear hall hc hf hcx hsx;by_cases hv:(h k).ver=floor+1+k;case neg=>have HE:=Aj (show KW now floor n h=false by unfold KW;rw[A9 (p:=λi=>decide ((h i).ver=floor+1+i)&&Lx (h i) now) hkn (by rw[decide_eq_false hv];rfl)];simp);go_wp2;go_ret;exact⟨Az HE.symm,hb.alloc hb.size _⟩
    case pos=>have HV:=Aj hv;clear hv;have hC:=Vu (h k) now ah ch (wr.alloc (.cells #[.i (h k).ver,.bool (h k).gone,.s (h k).ob.kind,.s (h k).ob.name,.i (h k).ob.ver,.i (h k).ob.born,.s (h k).ob.text,.bool (h k).ob.ending,.l ah (h k).ob.hn ch] 53)) lo hi Zy hfk (hs1.alloc (by have:=hb.size;omega) _);cases hp:Lx (h k) now with
     |false=>have HE:=Aj (show KW now floor n h=false by unfold KW;rw[A9 (p:=λi=>decide ((h i).ver=floor+1+i)&&Lx (h i) now) hkn (by rw[hp];simp)];simp);have hv:=HV.out;go_wp2_with fail;simp only[hv]at hC;refine hC.mono ?_;rintro e w2 ⟨rfl,hb2⟩;rw[hp];clear hC;go_wp2;go_ret;exact⟨Az HE.symm,(hb.alloc hb.size _).trans (hb2.mono Zy)⟩
     |true=>
      have HP:=Aj hp;have hv:=HV.out;go_wp2_with fail;simp only[hv]at hC;refine hC.mono ?_;rintro e w2 ⟨rfl,hb2⟩;rw[hp];clear hC;have hB2:Below w.1.size w w2:=(hb.alloc hb.size _).trans (hb2.mono Zy);have hz2:w.1.size<w2.1.size:=by have:=hb2.size;simp at this;omega
      have h00:w2.cell? ⟨w.1.size,0,none⟩=some (.i now):=(hb2.cell (p:=⟨w.1.size,0,none⟩) Zd).trans ((As _ _ _ hz).trans hb0);have h01:w2.cell? ⟨w.1.size,1,none⟩=some (.i floor):=(hb2.cell (p:=⟨w.1.size,1,none⟩) Zd).trans ((As _ _ _ hz).trans hb1);clear d0 d1 d2 d3 d4 d5 d6 d7 d8 hs1 hb2;go_wp2;go_roundw;case rel=>exact⟨k+1,Za,by go_num,λj hj=>(by
       rcases Aw j k with h3|h3;.exact HA j h3
       .have:j=k:=Za;subst this;exact⟨HV,HP⟩),hB2,hz2,h00,h01⟩
      case measure=>simp[intOf];omega
   .have HE:=Aj (show KW now floor n h=true by unfold KW;rw[decide_eq_true (show n<=200 by omega),decide_eq_true wE.out,AV.2 (λi hi=>by rw[decide_eq_true (hall i Za).1,(hall i Za).2];rfl)];rfl);clear hall hc hf;go_wp2;go_ret;exact⟨Az HE.symm,hb⟩
end Go.Proofs.YtnnjcenacidceaaGreat
namespace Go.Proofs.YtnnjcenacidceaaGreat
open Go.RowKit Go.Maps Go.Proofs.Tryz
theorem MX:Keyed prog 3:=int_keyed underlying3
theorem iQ (w:World):(zeroValue 90).run prog w=.ok (.agg #[]) w:=Ze
theorem ST (n:Nat)(w:World):(Instr.makeMap 89 (some (.i (n:Int)))).run prog w=.ok (.map (some w.1.size)) (w.alloc (.map #[] 0)):=by simp[Instr.makeMap,run_underlying underlying89,asInt,asIntOf,Result.andThen]
def TA (x:Nat->Ob)(k:Nat)(v:Int):Bool:=!Bg (λj=>decide (¬(x j).ver=v)) k
def XW (x:Nat->Ob)(k:Nat)(D:DataW Unit):Prop:=∀v:Int,(Lit.int .i64 v).wf=true->Maps.has D (.i v)=TA x k v
theorem Ve (x:Nat->Ob):XW x 0 (.map []):=λ_ _=>rfl
theorem Yl{x:Nat->Ob}{k:Nat}{D:DataW Unit}(h:XW x k D)(hD:IsMap D)(hw:(Lit.int .i64 (x k).ver).wf=true):XW x (k+1) (D.put (.i (x k).ver) (.agg [])):=λv hv=>by
 by_cases e:(x k).ver=v;.subst e;rw[has_put_same hD (MX.key (keyOf_int_mk underlying3 hw))];simp[TA,Bg]
 .rw[has_put_other (by intro h9;injection h9 with _ h9;exact e h9.symm),h v hv];simp[TA,Bg,e]
theorem BG{w w':World}{P:Program}{k:TypeId}{R:Value->Option (DataW Unit×List MemPlace)}{b n B:Nat}{D:DataW Unit}(h:w.ownsMap P k R b n D)(hb:Below B w w')(hB:b<B):w'.ownsMap P k R b n D:=by obtain⟨es,clock,h1,r⟩:=h;exact⟨es,clock,(hb.block b hB).trans h1,r⟩
theorem Qs (now floor:Int)(n:Nat)(x:Nat->Ob)(a1 a2 a3:OA)(c1 n2 c2 n3 c3:Nat)(w:World)(lo hi:Nat)(hhi:hi<=w.1.size)(hl:(n:Int)<=1099511627776)(hf:∀i,i<n->Ec (x i))(hc:BS w lo hi a1 n x):Calls prog 32 #[.agg #[.i now,.i floor,.l a1 n c1,.l a2 n2 c2,.l a3 n3 c3]] w λe w'=>e=.returned (.bool (EV n x))/\Below w.1.size w w':=by
 have hmm:=ST n;go_enter func32,ntmps32;go_wp2_with fail;go_loopw[15](λi wr=>∃(k:Nat)(D:DataW Unit),k<=n/\i=.i k/\Below w.1.size w wr/\wr.ownsMap prog 3 unitElem (w.1.size+1) k D/\XW x k D/\∀j,j<k->Bg (λk'=>decide (¬(x k').ver=(x j).ver)) j=true)(λi _=>n-(intOf i).toNat);case atStart=>have h9:=O3 (H:=Unit) (w.alloc (.cells #[.i now,.i floor,.l a1 n c1,.l a2 n2 c2,.l a3 n3 c3] 27)) prog 3 unitElem;rw[Av]at h9;exact⟨0,.map [],At _,rfl,(An _ _).alloc Zc _,h9,Ve x,λj hj=>absurd hj (Ai _)⟩
 case round=>
  obtain⟨k,D,hk,rfl,hb,hown,htold,hall⟩:=hrel;clear hmm;by_cases hkn:k<n;.obtain⟨b,off,ah,ch,rfl,hlo,hbh,hcx,_⟩:=hc k hkn;have hwf:=(hf k hkn).v;obtain⟨d0,d1,d2,d3,d4,d5,d6⟩:=hcx.below hb Za;have hky:=keyOf_int_mk underlying3 hwf;have hhas:=htold _ hwf;have HT:=Aj (Yl htold hown.isMap hwf);have N8:=Aj hown;have HA:=Aj hall;clear hc hf hcx htold hown hall;cases hs:TA x k (x k).ver with
   |true=>have HE:=Aj (show EV n x=false from A9 (p:=λi=>Bg (λk=>decide (¬(x k).ver=(x i).ver)) i) hkn (by simpa[TA]using hs));rw[hs]at hhas;clear hs;go_wp2_with (at_lookup;go_must(refine wpList_lookup_own_unit _ rfl _ _ 89 rfl 3 90 MX underlying89 (iQ _) (w.1.size+1) k D rfl (N8.alloc _) _ _ rfl hky ?_));go_ret;exact⟨Az HE.symm,(hb.alloc hb.size _).alloc Zy _⟩
   |false=>
    have HN:=Aj (show Bg (λk'=>decide (¬(x k').ver=(x k).ver)) k=true by simpa[TA]using hs);rw[hs]at hhas;clear hs;have hsz:=hb.size;have hlt:=N8.lt;go_wp2_with (first|(at_lookup;go_must(refine wpList_lookup_own_unit _ rfl _ _ 89 rfl 3 90 MX underlying89 (iQ _) (w.1.size+1) k D rfl (N8.alloc _) _ _ rfl hky ?_))|(at_mapUpdate;go_must(refine wpList_mapUpdate_own _ rfl _ _ _ 89 rfl 3 90 MX underlying89 _ (w.1.size+1) k D rfl ((N8.alloc _).alloc _) Zl _ _ _ rfl rfl hky _ [] unitElem_mk ?_;intro w3 hown3 hgrow3)));go_roundw;case rel=>exact⟨k+1,_,Za,by go_num,((hb.alloc hb.size _).alloc Zd _).grown hgrow3 Zd (λj hj=>by cases hj;omega),hown3,HT,λj hj=>(by
     rcases Aw j k with h3|h3;.exact HA j h3
     .have:j=k:=Za;subst this;exact HN)⟩
    case measure=>simp[intOf];omega
  .have HE:=Aj (show EV n x=true from AV.2 (λi hi=>hall i Za));clear hc hf hown htold hall;go_wp2;go_ret;exact⟨Az HE.symm,hb⟩
end Go.Proofs.YtnnjcenacidceaaGreat
