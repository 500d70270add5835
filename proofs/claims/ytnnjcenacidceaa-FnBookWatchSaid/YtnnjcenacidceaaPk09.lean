import Derived.Test.YtnnjcenacidceaaPk08
import Derived.Maps.OwnSet
import Derived.Maps.OwnOps
import Derived.ProofKit
set_option maxRecDepth 100000
set_option maxHeartbeats 1000000
namespace Go.Proofs.Ytnnjcenacidceaa
open Go.RowKit Go.Proofs.Try
theorem AS{w w1:World}{c d:Array Value}{t u:TypeId}(hb:Below ((w.alloc (.cells c t)).alloc (.cells d u)).1.size ((w.alloc (.cells c t)).alloc (.cells d u)) w1)(i:Nat):w1.cell? ⟨w.1.size,i,none⟩=c[i]?:=(hb.cell (p:=⟨w.1.size,i,none⟩) Zd).trans (((Am (w.alloc (.cells c t)) (.cells d u)).cell (p:=⟨w.1.size,i,none⟩) Zc).trans (Ak w c t i))
theorem VK{P:Prop}(h:P:=by go_ret;exact⟨Ay HE.symm,((Am _ _).trans ((Am _ _).mono Zc)).trans (hb1.mono Zd)⟩):P:=h
theorem RL (p c:Ch)(ad ad2:OA)(cap cap2:Nat)(w:World):Calls prog 51 #[.agg #[.i p.ver,.bool p.gone,.s p.ob.kind,.s p.ob.name,.i p.ob.ver,.i p.ob.born,.s p.ob.text,.bool p.ob.ending,.l ad p.ob.hn cap],.agg #[.i c.ver,.bool c.gone,.s c.ob.kind,.s c.ob.name,.i c.ob.ver,.i c.ob.born,.s c.ob.text,.bool c.ob.ending,.l ad2 c.ob.hn cap2]] w λe w'=>e=.returned (.bool (LN p c))/\Below w.1.size w w':=by obtain⟨pv,pg,po⟩:=p;dsimp only;cases pg with
 |true=>have HE:=Ah (show LN ⟨pv,true,po⟩ c=Og c by unfold LN;simp);go_enter func51,ntmps51;go_wp2_with (go_at_call 78;refine(LQ c ad2 cap2 _).mono ?_;rintro e w1 ⟨rfl,hb1⟩);exact VK
 |false=>cases hcr:Og c with
  |true=>have HE:=Ah (show LN ⟨pv,false,po⟩ c=false by unfold LN;simp[hcr]);go_enter func51,ntmps51;go_wp2_with (go_at_call 78;refine(LQ c ad2 cap2 _).mono ?_;rintro e w1 ⟨rfl,hb1⟩;rw[hcr];have k1:=AS hb1 1;simp only[Af,Ae,Ad]at k1);exact VK
  |false=>have HE:=Ah (show LN ⟨pv,false,po⟩ c=(po.born==c.ob.born)by unfold LN;simp[hcr]);go_enter func51,ntmps51;go_wp2_with (go_at_call 78;refine(LQ c ad2 cap2 _).mono ?_;rintro e w1 ⟨rfl,hb1⟩;rw[hcr];have k1:=AS hb1 5;have k2:w1.cell? ⟨w.1.size+1,5,none⟩=some (.i c.ob.born):=(by simpa using Ar hb1 5);simp only[Af,Ae,Ad]at k1);exact VK
def KI (now floor:Int)(n:Nat)(h:Nat->Ch):Bool:=decide (n<=200)&&(decide ((n:Int)=now-floor)&&Bc (λi=>decide ((h i).ver=floor+1+i)&&K9 (h i) now) n)
theorem OI (now floor:Int)(n:Nat)(h:Nat->Ch)(a1 a2 a3:OA)(n1 c1 c2 n3 c3:Nat)(w:World)(lo hi:Nat)(hhi:hi<=w.1.size)(hl:(n:Int)<=1099511627776)(hfl:0<=floor)(hno:floor<=now)(hnm:now<=1000000)(hf:∀i,i<n->Ef (h i).ob)(hc:CO w lo hi a2 n h):Calls prog 28 #[.agg #[.i now,.i floor,.l a1 n1 c1,.l a2 n c2,.l a3 n3 c3]] w λe w'=>e=.returned (.bool (KI now floor n h))/\Below w.1.size w w':=by
 by_cases h200:(200:Int)<n;.have HE:=Ah (show KI now floor n h=false by unfold KI;rw[decide_eq_false Za];rfl);go_enter func28,ntmps28;go_wp2;go_ret;exact⟨Ay HE.symm,Am _ _⟩
 by_cases hnf:(n:Int)=now-floor;case neg=>have HE:=Ah (show KI now floor n h=false by unfold KI;rw[decide_eq_false hnf];simp);go_enter func28,ntmps28;go_wp2;go_ret;exact⟨Ay HE.symm,Am _ _⟩
 case pos=>
  have vH:=Ah hnf;have hnf2:now-floor=(n:Int):=Za;clear hnf;go_enter func28,ntmps28;go_wp2;go_loopw[23](λi wr=>∃k:Nat,k<=n/\i=.i k/\(∀j,j<k->(h j).ver=floor+1+j/\K9 (h j) now=true)/\Below w.1.size w wr/\w.1.size<wr.1.size/\wr.cell? ⟨w.1.size,0,none⟩=some (.i now)/\wr.cell? ⟨w.1.size,1,none⟩=some (.i floor))(λi _=>n-(intOf i).toNat);case atStart=>exact⟨0,At _,rfl,λj hj=>absurd hj (Aj _),Am _ _,Zc,Ak _ _ _ _,Ak _ _ _ _⟩
  case round=>
   obtain⟨k,hk,rfl,hall,hb,hz,hb0,hb1⟩:=hrel;by_cases hkn:k<n
   .obtain⟨b,off,ah,ch,rfl,hlo,hbh,hcx,hsx⟩:=hc k hkn;have hfk:=hf k hkn;obtain⟨d0,d1,d2,d3,d4,d5,d6,d7,d8⟩:=hcx.below hb Za;have hs1:=hsx.below hb hhi;have HA:=Ah hall;clear hall hc hf hcx hsx;by_cases hv:(h k).ver=floor+1+k;case neg=>have HE:=Ah (show KI now floor n h=false by unfold KI;rw[AX (p:=λi=>decide ((h i).ver=floor+1+i)&&K9 (h i) now) hkn (by rw[decide_eq_false hv];rfl)];simp);go_wp2;go_ret;exact⟨Ay HE.symm,hb.alloc hb.size _⟩
    case pos=>have HV:=Ah hv;clear hv;have hC:=Va (h k) now ah ch (wr.alloc (.cells #[.i (h k).ver,.bool (h k).gone,.s (h k).ob.kind,.s (h k).ob.name,.i (h k).ob.ver,.i (h k).ob.born,.s (h k).ob.text,.bool (h k).ob.ending,.l ah (h k).ob.hn ch] 40)) lo hi Zv hfk (hs1.alloc (by have:=hb.size;omega) _);cases hp:K9 (h k) now with
     |false=>have HE:=Ah (show KI now floor n h=false by unfold KI;rw[AX (p:=λi=>decide ((h i).ver=floor+1+i)&&K9 (h i) now) hkn (by rw[hp];simp)];simp);have hv:=HV.out;go_wp2_with fail;simp only[hv]at hC;refine hC.mono ?_;rintro e w2 ⟨rfl,hb2⟩;rw[hp];clear hC;go_wp2;go_ret;exact⟨Ay HE.symm,(hb.alloc hb.size _).trans (hb2.mono Zv)⟩
     |true=>
      have HP:=Ah hp;have hv:=HV.out;go_wp2_with fail;simp only[hv]at hC;refine hC.mono ?_;rintro e w2 ⟨rfl,hb2⟩;rw[hp];clear hC;have hB2:Below w.1.size w w2:=(hb.alloc hb.size _).trans (hb2.mono Zv);have hz2:w.1.size<w2.1.size:=by have:=hb2.size;simp at this;omega
      have h00:w2.cell? ⟨w.1.size,0,none⟩=some (.i now):=(hb2.cell (p:=⟨w.1.size,0,none⟩) Zd).trans ((Ap _ _ _ hz).trans hb0);have h01:w2.cell? ⟨w.1.size,1,none⟩=some (.i floor):=(hb2.cell (p:=⟨w.1.size,1,none⟩) Zd).trans ((Ap _ _ _ hz).trans hb1);clear d0 d1 d2 d3 d4 d5 d6 d7 d8 hs1 hb2;go_wp2;go_roundw;case rel=>exact⟨k+1,Za,by go_num,λj hj=>(by
       rcases Au j k with h3|h3;.exact HA j h3
       .have:j=k:=Za;subst this;exact⟨HV,HP⟩),hB2,hz2,h00,h01⟩
      case measure=>simp[intOf];omega
   .have HE:=Ah (show KI now floor n h=true by unfold KI;rw[decide_eq_true (show n<=200 by omega),decide_eq_true vH.out,AP.2 (λi hi=>by rw[decide_eq_true (hall i Za).1,(hall i Za).2];rfl)];rfl);clear hall hc hf;go_wp2;go_ret;exact⟨Ay HE.symm,hb⟩
end Go.Proofs.Ytnnjcenacidceaa
namespace Go.Proofs.Ytnnjcenacidceaa
open Go.RowKit Go.Maps Go.Proofs.Try
theorem Ni:Keyed prog 3:=int_keyed underlying3
theorem bT (w:World):(zeroValue 77).run prog w=.ok (.agg #[]) w:=Ze
theorem Sn (n:Nat)(w:World):(Instr.makeMap 76 (some (.i (n:Int)))).run prog w=.ok (.map (some w.1.size)) (w.alloc (.map #[] 0)):=by simp[Instr.makeMap,run_underlying underlying76,asInt,asIntOf,Result.andThen]
def SD (x:Nat->Ob)(k:Nat)(v:Int):Bool:=!Bc (λj=>decide (¬(x j).ver=v)) k
def XG (x:Nat->Ob)(k:Nat)(D:DataW Unit):Prop:=∀v:Int,(Lit.int .i64 v).wf=true->Maps.has D (.i v)=SD x k v
theorem Ul (x:Nat->Ob):XG x 0 (.map []):=λ_ _=>rfl
theorem XP{x:Nat->Ob}{k:Nat}{D:DataW Unit}(h:XG x k D)(hD:IsMap D)(hw:(Lit.int .i64 (x k).ver).wf=true):XG x (k+1) (D.put (.i (x k).ver) (.agg [])):=λv hv=>by
 by_cases e:(x k).ver=v;.subst e;rw[has_put_same hD (Ni.key (keyOf_int_mk underlying3 hw))];simp[SD,Bc]
 .rw[has_put_other (by intro h9;injection h9 with _ h9;exact e h9.symm),h v hv];simp[SD,Bc,e]
theorem BC{w w':World}{P:Program}{k:TypeId}{R:Value->Option (DataW Unit×List MemPlace)}{b n B:Nat}{D:DataW Unit}(h:w.ownsMap P k R b n D)(hb:Below B w w')(hB:b<B):w'.ownsMap P k R b n D:=by obtain⟨es,clock,h1,r⟩:=h;exact⟨es,clock,(hb.block b hB).trans h1,r⟩
theorem PW (now floor:Int)(n:Nat)(x:Nat->Ob)(a1 a2 a3:OA)(c1 n2 c2 n3 c3:Nat)(w:World)(lo hi:Nat)(hhi:hi<=w.1.size)(hl:(n:Int)<=1099511627776)(hf:∀i,i<n->Ef (x i))(hc:B4 w lo hi a1 n x):Calls prog 27 #[.agg #[.i now,.i floor,.l a1 n c1,.l a2 n2 c2,.l a3 n3 c3]] w λe w'=>e=.returned (.bool (EX n x))/\Below w.1.size w w':=by
 have hmm:=Sn n;go_enter func27,ntmps27;go_wp2_with fail;go_loopw[15](λi wr=>∃(k:Nat)(D:DataW Unit),k<=n/\i=.i k/\Below w.1.size w wr/\wr.ownsMap prog 3 unitElem (w.1.size+1) k D/\XG x k D/\∀j,j<k->Bc (λk'=>decide (¬(x k').ver=(x j).ver)) j=true)(λi _=>n-(intOf i).toNat);case atStart=>have h9:=Oz (H:=Unit) (w.alloc (.cells #[.i now,.i floor,.l a1 n c1,.l a2 n2 c2,.l a3 n3 c3] 27)) prog 3 unitElem;rw[Aw]at h9;exact⟨0,.map [],At _,rfl,(Am _ _).alloc Zc _,h9,Ul x,λj hj=>absurd hj (Aj _)⟩
 case round=>
  obtain⟨k,D,hk,rfl,hb,hown,htold,hall⟩:=hrel;clear hmm;by_cases hkn:k<n;.obtain⟨b,off,ah,ch,rfl,hlo,hbh,hcx,_⟩:=hc k hkn;have hwf:=(hf k hkn).v;obtain⟨d0,d1,d2,d3,d4,d5,d6⟩:=hcx.below hb Za;have hky:=keyOf_int_mk underlying3 hwf;have hhas:=htold _ hwf;have HT:=Ah (XP htold hown.isMap hwf);have NP:=Ah hown;have HA:=Ah hall;clear hc hf hcx htold hown hall;cases hs:SD x k (x k).ver with
   |true=>have HE:=Ah (show EX n x=false from AX (p:=λi=>Bc (λk=>decide (¬(x k).ver=(x i).ver)) i) hkn (by simpa[SD]using hs));rw[hs]at hhas;clear hs;go_wp2_with (at_lookup;go_must(refine wpList_lookup_own_unit _ rfl _ _ 76 rfl 3 77 Ni underlying76 (bT _) (w.1.size+1) k D rfl (NP.alloc _) _ _ rfl hky ?_));go_ret;exact⟨Ay HE.symm,(hb.alloc hb.size _).alloc Zv _⟩
   |false=>
    have HN:=Ah (show Bc (λk'=>decide (¬(x k').ver=(x k).ver)) k=true by simpa[SD]using hs);rw[hs]at hhas;clear hs;have hsz:=hb.size;have hlt:=NP.lt;go_wp2_with (first|(at_lookup;go_must(refine wpList_lookup_own_unit _ rfl _ _ 76 rfl 3 77 Ni underlying76 (bT _) (w.1.size+1) k D rfl (NP.alloc _) _ _ rfl hky ?_))|(at_mapUpdate;go_must(refine wpList_mapUpdate_own _ rfl _ _ _ 76 rfl 3 77 Ni underlying76 _ (w.1.size+1) k D rfl ((NP.alloc _).alloc _) Zm _ _ _ rfl rfl hky _ [] unitElem_mk ?_;intro w3 hown3 hgrow3)));go_roundw;case rel=>exact⟨k+1,_,Za,by go_num,((hb.alloc hb.size _).alloc Zd _).grown hgrow3 Zd (λj hj=>by cases hj;omega),hown3,HT,λj hj=>(by
     rcases Au j k with h3|h3;.exact HA j h3
     .have:j=k:=Za;subst this;exact HN)⟩
    case measure=>simp[intOf];omega
  .have HE:=Ah (show EX n x=true from AP.2 (λi hi=>hall i Za));clear hc hf hown htold hall;go_wp2;go_ret;exact⟨Ay HE.symm,hb⟩
end Go.Proofs.Ytnnjcenacidceaa
