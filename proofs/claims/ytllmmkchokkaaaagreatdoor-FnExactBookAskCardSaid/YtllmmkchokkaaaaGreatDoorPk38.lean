import Derived.Test.YtllmmkchokkaaaaGreatDoorPk25
import Derived.Test.YtllmmkchokkaaaaGreatDoorPk35
import Derived.Test.YtllmmkchokkaaaaGreatDoorPk37
import Derived.Test.YtllmmkchokkaaaaGreatDoorPk34
set_option maxRecDepth 100000
set_option maxHeartbeats 8000000
namespace Go.Proofs.YtllmmkchokkaaaaGreatDoor
open Go.RowKit Go.Extern.Stop Go.Stop Go.Extern Go.Proofs.Tryz
theorem kB (c d:Int) (R a:Nat) (o0 o1:Value) (w:World) (hR:R<w.1.size) (ha:a<w.1.size) (_hRa:¬R=a) (h0:w.cell? ⟨R,0,none⟩=some o0) (h1:w.cell? ⟨R,1,none⟩=some o1) (hf:∀j,w.frozen? ⟨R,j,none⟩=false) (hp:w.cell? ⟨a,0,none⟩=some (.p R 0)):Calls prog 165 #[.iface 90 (.agg #[.i c,.i d]),.iface 149 (.p R 0),.agg #[.p 5 149,.p a 0,.int .u64 150],.iface 233 (.agg #[.p 5 90])] w λe w'=>e=.returned (.bool true)/\AP (λq=>q=R) w w'/\w'.cell? ⟨R,0,none⟩=some (.i c)/\w'.cell? ⟨R,1,none⟩=some (.i d):=by
 have B0:=Ae w (.cells #[.p 5 149,.p a 0,.int .u64 150] 206);have h162:=@run_callFunc_extern prog 162 _ (λargs=>ReflectliteValue.unpack (args.getD 0 (.tuple #[]))) func162 Zc Zc Zc Zc;have h189:=@run_callFunc_extern prog 189 _ (ReflectliteType.typeOf) func189 Zc Zc Zc Zc;have h253:=@run_callFunc_extern prog 253 _ (ReflectliteType.relation "AssignableTo" ReflectliteType.assignableTo) func253 Zc Zc Zc Zc;have h190:=@run_callFunc_extern prog 190 _ (ReflectliteValue.method (ReflectliteValue.valueError "reflectlite.Value.Elem" 0) ReflectliteValue.elem) func190 Zc Zc Zc Zc;have h191:=@run_callFunc_extern prog 191 _ (ReflectliteValue.set) func191 Zc Zc Zc Zc;have tO2:=Lf;have mA:=FL;have a90:=IR;have v90:=KI;go_enter func165,ntmps165;go_wp2;obtain⟨w1,hw1⟩:∃w1,w1=w.alloc (.cells #[.p 5 149,.p a 0,.int .u64 150] 206):=⟨_,rfl⟩;rw[<-hw1];have hb1:Below (w.alloc (.cells #[.p 5 149,.p a 0,.int .u64 150] 206)).1.size (w.alloc (.cells #[.p 5 149,.p a 0,.int .u64 150] 206)) w1:=by rw[hw1];exact Ak _ _
 clear hw1;have B1:=B0.trans (hb1.mono B0.size);have rb:=AS (w:=w) (l:=[.p 5 149,.p a 0,.int .u64 150]) (t:=206) hb1;obtain⟨y0,y1,y2⟩:=sH rb.cell;have zb:w.1.size<w1.1.size:=rb.lt;have zR:R<w1.1.size:=Za;have hp1:=(B1.cell (p:=⟨a,0,none⟩) ha).trans hp;have k0:=(B1.cell (p:=⟨R,0,none⟩) hR).trans h0;have k1:=(B1.cell (p:=⟨R,1,none⟩) hR).trans h1;have kf:=λj=>(B1.frozen (p:=⟨R,j,none⟩) hR).trans (hf j);have el:=Le ⟨a,0,none⟩ ⟨R,0,none⟩ w1 hp1;have BA:=Ae w1 (.cells #[.i c,.i d] 90);have st:=P5 R w1.1.size c d o0 o1 (w1.alloc (.cells #[.i c,.i d] 90)) (Cz rfl) (Cz rfl) ((BA.cell (p:=⟨R,0,none⟩) zR).trans k0) ((BA.cell (p:=⟨R,1,none⟩) zR).trans k1) (λj=>(BA.frozen (p:=⟨R,j,none⟩) zR).trans (kf j));have zS:R<((w1.setCell ⟨R,0,none⟩ (.i c)).setCell ⟨R,1,none⟩ (.i d)).1.size:=by simpa using zR
 have BS:=Ae ((w1.setCell ⟨R,0,none⟩ (.i c)).setCell ⟨R,1,none⟩ (.i d)) (.cells #[.i c,.i d] 90);have FN:=Ai (show AP (λq=>q=R) w (((w1.setCell ⟨R,0,none⟩ (.i c)).setCell ⟨R,1,none⟩ (.i d)).alloc (.cells #[.i c,.i d] 90))/\(((w1.setCell ⟨R,0,none⟩ (.i c)).setCell ⟨R,1,none⟩ (.i d)).alloc (.cells #[.i c,.i d] 90)).cell? ⟨R,0,none⟩=some (.i c)/\(((w1.setCell ⟨R,0,none⟩ (.i c)).setCell ⟨R,1,none⟩ (.i d)).alloc (.cells #[.i c,.i d] 90)).cell? ⟨R,1,none⟩=some (.i d)from⟨(((Aq B1).trans (AP.setCell (P:=λq=>q=R) (AP.refl _ _) rfl _)).trans (AP.setCell (P:=λq=>q=R) (AP.refl _ _) rfl _)).trans (Aq BS),(BS.cell (p:=⟨R,0,none⟩) zS).trans (by rw[Cq _ _ _ _ Ze];exact Ct _ _ _ k0),(BS.cell (p:=⟨R,1,none⟩) zS).trans (Ct _ _ _ (by rw[Cq _ _ _ _ Ze];exact k1))⟩);clear hb1 B0 B1 rb BS zS hp1 k0 k1 kf BA h0 h1 hf hp;refine wp_loop_rounds 1 ?_;rw[rounds_succ];go_wp2;go_ret;exact⟨rfl,FN⟩
theorem UP (c d:Int) (R:Nat) (o0 o1:Value) (w:World) (hg:w.cell? ⟨0,0,none⟩=some (.iface 233 (.agg #[.p 5 86]))) (hR:R<w.1.size) (h0:w.cell? ⟨R,0,none⟩=some o0) (h1:w.cell? ⟨R,1,none⟩=some o1) (hf:∀j,w.frozen? ⟨R,j,none⟩=false):Calls prog 103 #[.iface 90 (.agg #[.i c,.i d]),.iface 149 (.p R 0)] w λe w'=>e=.returned (.bool true)/\AP (λq=>q=R) w w'/\w'.cell? ⟨R,0,none⟩=some (.i c)/\w'.cell? ⟨R,1,none⟩=some (.i d):=by have h162:=@run_callFunc_extern prog 162 _ (λargs=>ReflectliteValue.unpack (args.getD 0 (.tuple #[]))) func162 Zc Zc Zc Zc;have h163:=@run_callFunc_extern prog 163 _ (ReflectliteValue.methodAny (ReflectliteValue.valueError "reflectlite.Value.Type" 0) (λt _ _ _=>ReflectliteType.toType t)) func163 Zc Zc Zc Zc;have h164:=@run_callFunc_extern prog 164 _ (ReflectliteValue.method (ReflectliteValue.valueError "reflectlite.Value.IsNil" 0) ReflectliteValue.isNil) func164 Zc Zc Zc Zc;have h243:=@run_callFunc_extern prog 243 _ (ReflectliteType.abiMethod λt=>do pure (.int .u8 (<-Rtype.kind t))) func243 Zc Zc Zc Zc;have h255:=@run_callFunc_extern prog 255 _ (ReflectliteType.method ReflectliteType.elem) func255 Zc Zc Zc Zc;have h256:=@run_callFunc_extern prog 256 _ (ReflectliteType.relation "Implements" ReflectliteType.implements_) func256 Zc Zc Zc Zc;have f6:=JV;have f7:=MU;have mK:=JU;have mE:=JW;have mI:=Gr;have k149:=MX;have k90:=N9;have e149:=MV;have i90:=IU;have B2:Below w.1.size w ((w.alloc (.cells #[.p R 0] 149)).alloc (.cells #[.p 5 149,.p (w.1.size) 0,.int .u64 150] 206)):=(Ae _ _).trans ((Ae _ _).mono Ze);have hcl:((w.alloc (.cells #[.p R 0] 149)).alloc (.cells #[.p 5 149,.p (w.1.size) 0,.int .u64 150] 206)).cell? ⟨w.1.size,0,none⟩=some (.p R 0):=((Ae (w.alloc (.cells #[.p R 0] 149)) (.cells #[.p 5 149,.p (w.1.size) 0,.int .u64 150] 206)).cell (p:=⟨w.1.size,0,none⟩) Ze).trans (Cz rfl);have n8:=Lg ⟨w.1.size,0,none⟩ ⟨R,0,none⟩ ((w.alloc (.cells #[.p R 0] 149)).alloc (.cells #[.p 5 149,.p (w.1.size) 0,.int .u64 150] 206)) hcl;have hlt:0<w.1.size:=Za;have hg2:=(B2.cell (p:=⟨0,0,none⟩) hlt).trans hg;have KN:=Ai (kB c d R w.1.size o0 o1 ((w.alloc (.cells #[.p R 0] 149)).alloc (.cells #[.p 5 149,.p (w.1.size) 0,.int .u64 150] 206)) (Aa hR B2.size) Zd Za ((B2.cell (p:=⟨R,0,none⟩) hR).trans h0) ((B2.cell (p:=⟨R,1,none⟩) hR).trans h1) (λj=>(B2.frozen (p:=⟨R,j,none⟩) hR).trans (hf j)) hcl);have Qw:=Ai B2;clear B2 hcl h0 h1 hf;go_enter func103,ntmps103;go_wp2_with fail;refine KN.mono ?_;rintro e w3 ⟨rfl,hf3,q0,q1⟩;have FN:=Ai (show AP (λq=>q=R) w w3/\w3.cell? ⟨R,0,none⟩=some (.i c)/\w3.cell? ⟨R,1,none⟩=some (.i d)from⟨(Aq Qw).trans hf3,q0,q1⟩);clear hf3 q0 q1;go_wp2;go_ret;exact⟨rfl,FN⟩
theorem Rz (c d:Int) (w:World) (hg:w.cell? ⟨0,0,none⟩=some (.iface 233 (.agg #[.p 5 86]))):Calls prog 44 #[.iface 90 (.agg #[.i c,.i d])] w λe w'=>e=.returned (.agg #[.i c,.i d])/\Below w.1.size w w':=by
 have hlt:0<w.1.size:=by
  rcases AW w.1.size with h0|h;.simp[World.cell?,h0]at hg
  .exact h
 have B2:Below w.1.size w ((w.alloc (.cells #[.i 0,.i 0] 90)).alloc (.cells #[.i 0,.i 0] 90)):=(Ae _ _).trans ((Ae _ _).mono Ze);have KN:=Ai (UP c d (w.1.size+1) (.i 0) (.i 0) ((w.alloc (.cells #[.i 0,.i 0] 90)).alloc (.cells #[.i 0,.i 0] 90)) ((B2.cell (p:=⟨0,0,none⟩) hlt).trans hg) Ze (Cz Ze) (Cz Ze) (λj=>KD Ze));clear B2 hg;go_enter func44,ntmps44;go_wp2_with fail;refine KN.mono ?_;rintro e w3 ⟨rfl,hf3,q0,q1⟩;have z3:w.1.size+1<w3.1.size:=by have:=hf3.size;simp at this;omega
 have p0:w3.cell? ⟨w.1.size,0,none⟩=some (.i 0):=(hf3.cell (p:=⟨w.1.size,0,none⟩) Zd Ze).trans (((Ae (w.alloc (.cells #[.i 0,.i 0] 90)) (.cells #[.i 0,.i 0] 90)).cell (p:=⟨w.1.size,0,none⟩) Ze).trans (Cz rfl));have p1:w3.cell? ⟨w.1.size,1,none⟩=some (.i 0):=(hf3.cell (p:=⟨w.1.size,1,none⟩) Zd Ze).trans (((Ae (w.alloc (.cells #[.i 0,.i 0] 90)) (.cells #[.i 0,.i 0] 90)).cell (p:=⟨w.1.size,1,none⟩) Ze).trans (Cz rfl));have pf:∀j,w3.frozen? ⟨w.1.size,j,none⟩=false:=λj=>(hf3.frozen (p:=⟨w.1.size,j,none⟩) Zd Ze).trans (((Ae (w.alloc (.cells #[.i 0,.i 0] 90)) (.cells #[.i 0,.i 0] 90)).frozen (p:=⟨w.1.size,j,none⟩) Ze).trans (KD rfl));have E3:=Ai (show Below w.1.size w w3 from((Ae _ _).trans ((Ae _ _).mono Ze)).trans (hf3.below (B:=w.1.size) (λq hq e=>by omega) Zd));clear hf3;go_wp2;refine bodyPost_ret (v:=.agg #[.i c,.i d]) (by simp[results,results44,go_sem,p0,p1]) rfl ⟨rfl,?_⟩;exact(E3.setCell Bj _).setCell Bj _
end Go.Proofs.YtllmmkchokkaaaaGreatDoor
namespace Go.Proofs.YtllmmkchokkaaaaGreatDoor
open Go.RowKit Go.Maps Go.Proofs.Tryz
theorem UG{P:Prop}(h:P:=by clear hwk;go_wp2_with (go_at_call 90;refine(CC _ _ (by first|exact fk.z0|exact fk.z1)).mono ?_;rintro e w9 ⟨rfl,rfl⟩;first|rw[nk]|rw[nn]);go_ret;exact⟨Av HN.out.symm,(by repeat(first|with_reducible exact HB.out|with_reducible refine Ba ?_ uH _|with_reducible refine AJ ?_ uH _))⟩):P:=h
theorem Vc{P:Prop}(h:P:=by rw[At];rcases(show j=0\/j=1 by simp at hj;omega)with rfl|rfl<;>rfl):P:=h
theorem EH (x:Bu) (ua ub:OA) (d1 d2:Nat) (w:World) (lo hi:Nat) (hhi:hi<=w.1.size) (hu:Ek x) (hc:CG w lo hi x ua ub):Calls prog 56 #[.agg (vU x ua ub d1 d2)] w λe w'=>e=.returned (.bool (K2 x))/\Below w.1.size w w':=by
 have HU:=Ai hu;have HC:=Ai hc;clear hu hc;by_cases hbig:10<x.wn\/10<x.rn
 .have HN:=Ai (bC hbig);by_cases hw:10<x.wn
  .go_enter func56,ntmps56;go_wp2;go_ret;exact⟨Av HN.symm,Ae _ _⟩
  .have hr:10<x.rn:=hbig.resolve_left hw;go_enter func56,ntmps56;go_wp2;go_ret;exact⟨Av HN.symm,Ae _ _⟩
 have hw:x.wn<=10:=Za;have hr:x.rn<=10:=Za;clear hbig;have hq:Cl (w.alloc (.cells (vU x ua ub d1 d2) 57)) w.1.size (XE x ua ub d1 d2):=λj hj=>by exact Vc
 have hb:=Ae w (.cells (vU x ua ub d1 d2) 57);go_enter func56,ntmps56;go_upto_region 1 with fail;generalize w.alloc (.cells (vU x ua ub d1 d2) 57)=W1 at hq hb⊢;have HQ:=Ai hq;have HB:=Ai hb;clear hq hb;obtain⟨q0,q1⟩:=WH HQ.out;go_wp2;clear q0 q1;go_loopw[20](λi wr=>∃k:Nat,k<=x.wn/\i=.i k/\Hid (∀j,j<k->PB (x.ws j)=true)/\Hid (Cl wr w.1.size (XE x ua ub d1 d2))/\Hid (Below w.1.size w wr)) (λi _=>x.wn-(intOf i).toNat);case atStart=>exact⟨0,Ap _,rfl,Ai (λj hj=>absurd hj (Al _)),HQ,HB⟩
 case round=>
  clear HQ HB;obtain⟨k,hk,rfl,HA,HQ,HB⟩:=hrel;by_cases hkn:k<x.wn;.obtain⟨b,off,hu1,hlo,hbh,hcx⟩:=HC.wt k hkn;subst hu1;obtain⟨e0,e1,e2⟩:=hcx.below HB Za;clear hcx;have fk:=HU.ws k hkn;have zb:=HB.size;cases hwk:PB (x.ws k)with
   |false=>
    have HN:=Ai (jE hkn hwk);rcases SM hwk with nk|⟨nk,nn⟩|⟨nk,nn,h0⟩;.exact UG
    .exact UG
    .exact UG
   |true=>
    have HK:=Ai hwk;have nk:Bv (x.ws k).kind=true:=by unfold PB at hwk;simp only[AG]at hwk;exact hwk.1
    have nn:Bv (x.ws k).name=true:=by unfold PB at hwk;simp only[AG]at hwk;exact hwk.2.1
    have h0:0<=(x.ws k).ver:=by unfold PB at hwk;simp only[AG,decide_eq_true_eq]at hwk;exact hwk.2.2
    clear hwk;go_wp2_with (go_at_call 90;refine(CC _ _ (by first|exact fk.z0|exact fk.z1)).mono ?_;rintro e w9 ⟨rfl,rfl⟩;first|rw[nk]|rw[nn]);go_roundw;case rel=>exact⟨k+1,Za,by go_num,Ai (λj hj=>by
     rcases As j k with q|q;.exact HA j q
     .obtain rfl:j=k:=Za;exact HK.out),Ai (HQ.out.below FU (by have:=HB.out.size;have:=MQ (HQ.out 0 Ze);exact this)),Ai (by repeat(first|with_reducible exact HB.out|with_reducible refine Ba ?_ uH _|with_reducible refine AJ ?_ uH _))⟩
    case measure=>simp[intOf];omega
  .have hA1:=Ai (show∀j,j<x.wn->PB (x.ws j)=true from λj hj=>HA.out j Za);clear HA;obtain⟨q0,q1⟩:=WH HQ.out;go_wp2;clear q0 q1 hkn hk;go_loopw[43](λi wr=>∃k:Nat,k<=x.rn/\i=.i k/\Hid (∀j,j<k->Er (x.rs j)=true)/\Hid (Cl wr w.1.size (XE x ua ub d1 d2))/\Hid (Below w.1.size w wr)) (λi _=>x.rn-(intOf i).toNat);case atStart=>exact⟨0,Ap _,rfl,Ai (λj hj=>absurd hj (Al _)),HQ,HB⟩
   case round=>
    clear HQ HB;obtain⟨k,hk,rfl,HA,HQ,HB⟩:=hrel;by_cases hkn:k<x.rn;.obtain⟨b,off,hu1,hlo,hbh,hcx⟩:=HC.wr k hkn;subst hu1;obtain⟨e0,e1,e2,e3,e4,e5⟩:=hcx.below HB Za;clear hcx;have fk:=HU.rs k hkn;have zb:=HB.size;have zq:w.1.size<wr.1.size:=MQ (HQ.out 0 Ze);cases nk:Er (x.rs k)with
     |false=>have HN:=Ai (aF hkn nk);go_wp2_with fail;refine(K8 (x.rs k) fk _).mono ?_;rintro e w9 ⟨rfl,hb9⟩;rw[nk];have K5:=Ai ((HB.alloc HB.size _).trans (hb9.mono Zd));clear hb9;go_wp2;go_ret;exact⟨Av HN.symm,K5⟩
     |true=>
      have HK:=Ai nk;go_wp2_with fail;refine(K8 (x.rs k) fk _).mono ?_;rintro e w9 ⟨rfl,hb9⟩;rw[nk];have K5:=Ai ((HB.alloc HB.size _).trans (hb9.mono Zd));have aq:=Ai ((HQ.below FU zq).below hb9 Zd);clear hb9;go_wp2;go_roundw;case rel=>exact⟨k+1,Za,by go_num,Ai (λj hj=>by
       rcases As j k with q|q;.exact HA j q
       .obtain rfl:j=k:=Za;exact HK),aq,K5⟩
      case measure=>simp[intOf];omega
    .have HY:=Ai (hH hw hr hA1 (λj hj=>HA.out j Za));clear HA;go_wp2;go_ret;exact⟨Av HY.symm,HB⟩
end Go.Proofs.YtllmmkchokkaaaaGreatDoor
set_option maxRecDepth 100000
namespace Go.Proofs.YtllmmkchokkaaaaGreatDoor
open Go.RowKit Go.Proofs.Tryz
structure Jg (u:Bu):Prop where
 w:∀i,i<u.wn->((u.ws i).kind.size:Int)<=1048576/\((u.ws i).name.size:Int)<=1048576/\0<=(u.ws i).ver/\(u.ws i).ver<=9223372036854775807/\((Gq [⟨#[119,97,110,116]⟩,(u.ws i).kind,(u.ws i).name,CF (u.ws i).ver]).length:Int)<=1000000000000/\((Ix (u.ws i)).size:Int)<=1099511627776
 r:∀i,i<u.rn->0<=(u.rs i).op/\(u.rs i).op<=9223372036854775807/\0<=(u.rs i).seen/\(u.rs i).seen<=9223372036854775807/\((u.rs i).text.size:Int)<=1099511627776/\((Gq [⟨#[119,114,105,116,101]⟩,CF (u.rs i).op,(u.rs i).kind,(u.rs i).name,CF (u.rs i).seen,⟨(OC (u.rs i).text).toArray⟩,(u.rs i).hold]).length:Int)<=1000000000000/\((IB (u.rs i)).size:Int)<=1099511627776
theorem Vw{P:Prop}(h:P:=by go_wp2;exact⟨⟨k+1,Za,by go_num,rfl,by simp at zX;omega,pB,Qw⟩,by simp[intOf];omega⟩):P:=h
theorem K6 (x:Bu) (ua ub:OA) (d1 d2:Nat) (w:World) (lo hi:Nat) (hhi:hi<=w.1.size) (hu:Ek x) (hp:Jg x) (ht:L3 w) (hc:CG w lo hi x ua ub):Calls prog 173 #[.agg (vU x ua ub d1 d2)] w λe w'=>e=.returned (.s (He x))/\Below w.1.size w w':=by
 have hw:=hu.w;have hr:=hu.r;have HP:=Ai hp;have HC:=Ai hc;have HT:=Ai ht;clear hu hc hp ht;have hq:Cl (w.alloc (.cells (vU x ua ub d1 d2) 57)) w.1.size (XE x ua ub d1 d2):=λj hj=>by exact Vc
 have hb:=Ae w (.cells (vU x ua ub d1 d2) 57);have hz:w.1.size<(w.alloc (.cells (vU x ua ub d1 d2) 57)).1.size:=Ze;go_enter func173,ntmps173;go_upto_region 1 with fail;generalize w.alloc (.cells (vU x ua ub d1 d2) 57)=W1 at hq hb hz⊢;have HQ:=Ai hq;have HB:=Ai hb;clear hq hb;obtain⟨q0,q1⟩:=WH HQ.out;go_wp2;clear q0 q1;go_loopw[3,11](λv i wr=>∃k:Nat,k<=x.wn/\i=.i k/\v=.int .u64 (tS x k)/\w.1.size<wr.1.size/\Hid (Cl wr w.1.size (XE x ua ub d1 d2))/\Hid (Below w.1.size w wr)) (λ_ i _=>x.wn-(intOf i).toNat);case atStart=>exact⟨0,Ap _,rfl,rfl,hz,HQ,HB⟩
 case round=>
  clear HQ HB hz;obtain⟨k,hk,rfl,rfl,hz,HQ,HB⟩:=hrel;by_cases hkn:k<x.wn;.obtain⟨b,off,hu1,hlo,hbh,hcx⟩:=HC.wt k hkn;subst hu1;obtain⟨e0,e1,e2⟩:=hcx.below HB Za;clear hcx;have zb:=HB.size;obtain⟨f0,f1,f2,f3,f4,f5⟩:=HP.w k hkn;go_wp2;refine qK (λi=>[u15,u16,u17,u18,u19,u20,u21,u22,u23,u24,u25].getD i undef) wr.1.size (tS x k) (x.ws k) (wr.alloc (.cells #[.s (x.ws k).kind,.s (x.ws k).name,.i (x.ws k).ver] 158)) Ze Zm Zm Zm ((HT.below HB).below FU) f0 f1 f2 f3 f4 f5 rfl _ ?_;intro t X hbX;have zX:=hbX.size;have pB:=Ai ((HQ.below FU hz).below hbX Zd);have Qw:=Ai ((HB.trans ((Ae wr (.cells #[.s (x.ws k).kind,.s (x.ws k).name,.i (x.ws k).ver] 158)).mono zb)).trans (hbX.mono Zd));exact Vw
  .have hkw:k=x.wn:=Za;subst hkw;have q1:=HQ.out 1 Ze;simp only[Bg,Af,Ag]at q1;go_wp2;clear q1;go_loopw[3,30](λv i wr=>∃k:Nat,k<=x.rn/\i=.i k/\v=.int .u64 (fF x k)/\w.1.size<wr.1.size/\Hid (Below w.1.size w wr)) (λ_ i _=>x.rn-(intOf i).toNat);case atStart=>exact⟨0,Ap _,rfl,rfl,hz,HB⟩
   case round=>
    clear HQ HB hz;obtain⟨k,hk,rfl,rfl,hz,HB⟩:=hrel;by_cases hkn:k<x.rn;.obtain⟨b,off,hu1,hlo,hbh,hcx⟩:=HC.wr k hkn;subst hu1;obtain⟨e0,e1,e2,e3,e4,e5⟩:=hcx.below HB Za;clear hcx;have zb:=HB.size;obtain⟨f0,f1,f2,f3,f4,f5,f6⟩:=HP.r k hkn;go_wp2;refine kJ (λi=>[u34,u35,u36,u37,u38,u39,u40,u41,u42,u43,u44,u45,u46,u47,u48,u49,u50,u51,u52].getD i undef) wr.1.size (fF x k) (x.rs k) (wr.alloc (.cells (vW (x.rs k)) 40)) Ze Zm Zm Zm Zm Zm Zm ((HT.below HB).below FU) f0 f1 f2 f3 f4 f5 f6 rfl _ ?_;intro t X hbX;have zX:=hbX.size;have Qw:=Ai ((HB.trans ((Ae wr (.cells (vW (x.rs k)) 40)).mono zb)).trans (hbX.mono Zd));go_wp2;exact⟨⟨k+1,Za,by go_num,rfl,by simp at zX;omega,Qw⟩,by simp[intOf];omega⟩
    .have hkw:k=x.rn:=Za;subst hkw;have bd:=cJ x x.rn;have HV:=Ai (show He x=⟨(Iy (fF x x.rn)).toArray⟩from rfl);obtain⟨y,hy⟩:∃y,fF x x.rn=y:=⟨_,rfl⟩;rw[hy]at bd HV⊢;go_wp2_with (go_at_call 197;refine(Xl y _ bd.1 bd.2).mono ?_;rintro e w9 ⟨rfl,hb9⟩);go_ret;exact⟨by rw[HV.out];rfl,HB.trans (hb9.mono HB.size)⟩
end Go.Proofs.YtllmmkchokkaaaaGreatDoor
set_option maxRecDepth 100000
namespace Go.Proofs.YtllmmkchokkaaaaGreatDoor
open Go.RowKit Go.Proofs.Tryz
def pP (x:Bu):Prop:=(∀k,k<=x.wn->((VU x k).size:Int)<=1099511627776)/\(∀k,k<=x.rn->((Yh x k).size:Int)<=1099511627776)
theorem Kw (x:Bu) (ua ub:OA) (d1 d2:Nat) (w:World) (lo hi:Nat) (hhi:hi<=w.1.size) (hu:Ek x) (hp:Jg x) (hx:pP x) (hc:CG w lo hi x ua ub):Calls prog 117 #[.agg (vU x ua ub d1 d2)] w λe w'=>e=.returned (.s (He x))/\Below w.1.size w w':=by
 obtain⟨i0,hi0,hz0,hz1,hz2⟩:=info_parts JN;have hw:=hu.w;have hr:=hu.r;have HP:=Ai hp;have HC:=Ai hc;have HX:=Ai hx;clear hu hc hp hx;have hq:Cl (w.alloc (.cells (vU x ua ub d1 d2) 57)) w.1.size (XE x ua ub d1 d2):=λj hj=>by exact Vc
 have hb:=Ae w (.cells (vU x ua ub d1 d2) 57);have hz:w.1.size<(w.alloc (.cells (vU x ua ub d1 d2) 57)).1.size:=Ze;go_enter func117,ntmps117;go_upto_region 1 with fail;generalize(w.alloc (.cells (vU x ua ub d1 d2) 57))=W1 at hq hb hz⊢;have HQ:=Ai hq;have HB:=Ai hb;clear hq hb;go_wp2;go_loopw[3,4](λv i wr=>∃k:Nat,k<=x.wn/\i=.i k/\v=.s (VU x k)/\w.1.size<wr.1.size/\Hid (Cl wr w.1.size (XE x ua ub d1 d2))/\Hid (Below w.1.size w wr)) (λ_ i _=>x.wn-(intOf i).toNat);case atStart=>exact⟨0,Ap _,rfl,rfl,hz,HQ,HB⟩
 case round=>
  clear HQ HB hz;obtain⟨k,hk,rfl,rfl,hz,HQ,HB⟩:=hrel;have q0:=HQ.out 0 Ze;simp only[Bg,Af]at q0;by_cases hkn:k<x.wn;.obtain⟨b,off,hu1,hlo,hbh,hcx⟩:=HC.wt k hkn;subst hu1;obtain⟨e0,e1,e2⟩:=hcx.below HB Za;clear hcx;have zb:=HB.size;obtain⟨f0,f1,f2,f3,f4,f5⟩:=HP.w k hkn;have fs:=HX.out.1 k hk;have fz:=V2 (x.ws k);go_wp2;refine qJ (λi=>[u24,u25,u26,u27,u28,u29,u30,u31,u32,u33,u34,u35,u36,u37,u38].getD i undef) wr.1.size (VU x k) (x.ws k) (wr.alloc (.cells #[.s (x.ws k).kind,.s (x.ws k).name,.i (x.ws k).ver] 158)) Ze Zm Zm Zm f2 f3 fs f0 f1 Za rfl _ ?_;intro t X hbX;have zX:=hbX.size;have pB:=Ai ((HQ.below FU hz).below hbX Zd);have Qw:=Ai ((HB.trans ((Ae wr (.cells #[.s (x.ws k).kind,.s (x.ws k).name,.i (x.ws k).ver] 158)).mono zb)).trans (hbX.mono Zd));clear q0;exact Vw
  .have hkw:k=x.wn:=Za;subst hkw;go_wp2;clear q0;go_loopw[3,6](λv i wr=>∃k:Nat,k<=x.rn/\i=.i k/\v=.s (Yh x k)/\w.1.size<wr.1.size/\Hid (Cl wr w.1.size (XE x ua ub d1 d2))/\Hid (Below w.1.size w wr)) (λ_ i _=>x.rn-(intOf i).toNat);case atStart=>exact⟨0,Ap _,rfl,rfl,hz,HQ,HB⟩
   case round=>
    clear HQ HB hz;obtain⟨k,hk,rfl,rfl,hz,HQ,HB⟩:=hrel;have q1:=HQ.out 1 Ze;simp only[Bg,Af,Ag]at q1;by_cases hkn:k<x.rn;.obtain⟨b,off,hu1,hlo,hbh,hcx⟩:=HC.wr k hkn;subst hu1;obtain⟨e0,e1,e2,e3,e4,e5⟩:=hcx.below HB Za;clear hcx;have zb:=HB.size;obtain⟨f0,f1,f2,f3,f4,f5,f6⟩:=HP.r k hkn;have fs:=HX.out.2 k hk;have fz:=WE (x.rs k);go_wp2;refine mN (λi=>[u51,u52,u53,u54,u55,u56,u57,u58,u59,u60,u61,u62,u63,u64,u65,u66,u67,u68,u69,u70,u71,u72,u73,u74,u75,u76,u77,u78,u79].getD i undef) wr.1.size (Yh x k) (x.rs k) (wr.alloc (.cells (vW (x.rs k)) 40)) Ze Zm Zm Zm Zm Zm Zm f0 f1 f2 f3 f4 fs Za Za Za Za Za Za rfl _ ?_;intro t X hbX;have zX:=hbX.size;have pB:=Ai ((HQ.below FU hz).below hbX Zd);have Qw:=Ai ((HB.trans ((Ae wr (.cells (vW (x.rs k)) 40)).mono zb)).trans (hbX.mono Zd));clear q1;exact Vw
    .have hkw:k=x.rn:=Za;subst hkw;have bd:=cJ x x.rn;have HV:=Ai (show He x=⟨(Iy (fF x x.rn)).toArray⟩from rfl);have HS:=Ai (fC x x.rn);have fs:=HX.out.2 _ hk;clear hw hr;generalize Yh x x.rn=s at HS fs⊢;generalize fF x x.rn=y at HS HV bd;go_wp2;clear q1;go_loopw[8,9](λv i wr'=>∃k:Nat,k<=s.size/\i=.i k/\v=.int .u64 (Hl 14695981039346656037 (s.data.toList.take k))/\wr'=wr) (λ_ i _=>s.size-(intOf i).toNat);case atStart=>exact⟨0,Ap _,rfl,rfl,rfl⟩
     case round=>
      obtain⟨k,hk,rfl,rfl,rfl⟩:=hrel;by_cases hkn:k<s.size;.have STEP:=Ai (QG 14695981039346656037 s k hkn);go_wp2;exact⟨⟨k+1,Za,by go_num,by rw[STEP.out];rfl,trivial⟩,by simp[intOf];omega⟩
      .have hks:k=s.size:=Za;subst hks;have HT:=Ai (show Hl 14695981039346656037 (s.data.toList.take s.size)=y by rw[HS.out,FG Ze]);rw[HT.out];clear HS HT bd fs;go_wp2;go_loopw[10,11](λv i wr'=>∃m:Nat,m<=8/\i=.i (7-(m:Int))/\Hid (En wr' w.1.size v ((Iy y).take m))/\Hid (Below w.1.size w wr')) (λ_ i _=>(intOf i+1).toNat);case atStart=>exact⟨0,Ap _,rfl,Ai (World.ownsRow_lit wr #[] 0 HB.size Zn rfl),Ai (HB.alloc HB.size _)⟩
       case round=>
        clear HB HQ hz;obtain⟨m,hm,rfl,NG,HB⟩:=hrel;by_cases hmn:m<8
        .have zb:=HB.size;rcases(show m=0\/m=1\/m=2\/m=3\/m=4\/m=5\/m=6\/m=7 by omega)with rfl|rfl|rfl|rfl|rfl|rfl|rfl|rfl
         .have hβ:y/72057594037927936%256=((KX y 7).toNat:Int):=by rw[Hk];unfold Wh;simp
          have STEP:=Ai (show(Iy y).take 1=(Iy y).take 0++[KX y 7]from rfl);have hl:((Iy y).take 0).length=0:=rfl;obtain⟨L,hL⟩:∃L,(Iy y).take 0=L:=⟨_,rfl⟩;rw[hL]at NG hl STEP;generalize KX y 7=β at hβ STEP;have HO:=Ai (NG.alloc (.cells #[.int .u8 (β.toNat:Int)] 5));clear NG hL HV;go_wp2_with (at_builtin;go_must(refine wpList_append_own _ rfl _ _ 217 rfl w.1.size 5 i0 (.int .u8 0) 1 1 underlying217 hi0 hz0 hz1 hz2 rfl Zb _ _ _ rfl HO ⟨wr.1.size,0,none⟩ 1 1 (Lib.byteCells [β]) rfl rfl (C9 wr _ 5) YO Zn Za Ur ?_;intro v2 w2 hown2 hgrow2 _));have B2:=Ai (DJ (HB.alloc HB.size _) Bj Ur HO hgrow2);have O2:En w2 w.1.size v2 (L++[β]):=En.app hown2;go_roundw;case rel=>exact⟨1,Za,by go_num,Ai nU,B2⟩
          case measure=>simp[intOf]
         .have hβ:y/281474976710656%256=((KX y 6).toNat:Int):=by rw[Hk];unfold Wh;simp
          have STEP:=Ai (show(Iy y).take 2=(Iy y).take 1++[KX y 6]from rfl);have hl:((Iy y).take 1).length=1:=rfl;obtain⟨L,hL⟩:∃L,(Iy y).take 1=L:=⟨_,rfl⟩;rw[hL]at NG hl STEP;generalize KX y 6=β at hβ STEP;have HO:=Ai (NG.alloc (.cells #[.int .u8 (β.toNat:Int)] 5));clear NG hL HV;go_wp2_with (at_builtin;go_must(refine wpList_append_own _ rfl _ _ 217 rfl w.1.size 5 i0 (.int .u8 0) 1 1 underlying217 hi0 hz0 hz1 hz2 rfl Zb _ _ _ rfl HO ⟨wr.1.size,0,none⟩ 1 1 (Lib.byteCells [β]) rfl rfl (C9 wr _ 5) YO Zn Za Ur ?_;intro v2 w2 hown2 hgrow2 _));have B2:=Ai (DJ (HB.alloc HB.size _) Bj Ur HO hgrow2);have O2:En w2 w.1.size v2 (L++[β]):=En.app hown2;go_roundw;case rel=>exact⟨2,Za,by go_num,Ai nU,B2⟩
          case measure=>simp[intOf]
         .have hβ:y/1099511627776%256=((KX y 5).toNat:Int):=by rw[Hk];unfold Wh;simp
          have STEP:=Ai (show(Iy y).take 3=(Iy y).take 2++[KX y 5]from rfl);have hl:((Iy y).take 2).length=2:=rfl;obtain⟨L,hL⟩:∃L,(Iy y).take 2=L:=⟨_,rfl⟩;rw[hL]at NG hl STEP;generalize KX y 5=β at hβ STEP;have HO:=Ai (NG.alloc (.cells #[.int .u8 (β.toNat:Int)] 5));clear NG hL HV;go_wp2_with (at_builtin;go_must(refine wpList_append_own _ rfl _ _ 217 rfl w.1.size 5 i0 (.int .u8 0) 1 1 underlying217 hi0 hz0 hz1 hz2 rfl Zb _ _ _ rfl HO ⟨wr.1.size,0,none⟩ 1 1 (Lib.byteCells [β]) rfl rfl (C9 wr _ 5) YO Zn Za Ur ?_;intro v2 w2 hown2 hgrow2 _));have B2:=Ai (DJ (HB.alloc HB.size _) Bj Ur HO hgrow2);have O2:En w2 w.1.size v2 (L++[β]):=En.app hown2;go_roundw;case rel=>exact⟨3,Za,by go_num,Ai nU,B2⟩
          case measure=>simp[intOf]
         .have hβ:y/4294967296%256=((KX y 4).toNat:Int):=by rw[Hk];unfold Wh;simp
          have STEP:=Ai (show(Iy y).take 4=(Iy y).take 3++[KX y 4]from rfl);have hl:((Iy y).take 3).length=3:=rfl;obtain⟨L,hL⟩:∃L,(Iy y).take 3=L:=⟨_,rfl⟩;rw[hL]at NG hl STEP;generalize KX y 4=β at hβ STEP;have HO:=Ai (NG.alloc (.cells #[.int .u8 (β.toNat:Int)] 5));clear NG hL HV;go_wp2_with (at_builtin;go_must(refine wpList_append_own _ rfl _ _ 217 rfl w.1.size 5 i0 (.int .u8 0) 1 1 underlying217 hi0 hz0 hz1 hz2 rfl Zb _ _ _ rfl HO ⟨wr.1.size,0,none⟩ 1 1 (Lib.byteCells [β]) rfl rfl (C9 wr _ 5) YO Zn Za Ur ?_;intro v2 w2 hown2 hgrow2 _));have B2:=Ai (DJ (HB.alloc HB.size _) Bj Ur HO hgrow2);have O2:En w2 w.1.size v2 (L++[β]):=En.app hown2;go_roundw;case rel=>exact⟨4,Za,by go_num,Ai nU,B2⟩
          case measure=>simp[intOf]
         .have hβ:y/16777216%256=((KX y 3).toNat:Int):=by rw[Hk];unfold Wh;simp
          have STEP:=Ai (show(Iy y).take 5=(Iy y).take 4++[KX y 3]from rfl);have hl:((Iy y).take 4).length=4:=rfl;obtain⟨L,hL⟩:∃L,(Iy y).take 4=L:=⟨_,rfl⟩;rw[hL]at NG hl STEP;generalize KX y 3=β at hβ STEP;have HO:=Ai (NG.alloc (.cells #[.int .u8 (β.toNat:Int)] 5));clear NG hL HV;go_wp2_with (at_builtin;go_must(refine wpList_append_own _ rfl _ _ 217 rfl w.1.size 5 i0 (.int .u8 0) 1 1 underlying217 hi0 hz0 hz1 hz2 rfl Zb _ _ _ rfl HO ⟨wr.1.size,0,none⟩ 1 1 (Lib.byteCells [β]) rfl rfl (C9 wr _ 5) YO Zn Za Ur ?_;intro v2 w2 hown2 hgrow2 _));have B2:=Ai (DJ (HB.alloc HB.size _) Bj Ur HO hgrow2);have O2:En w2 w.1.size v2 (L++[β]):=En.app hown2;go_roundw;case rel=>exact⟨5,Za,by go_num,Ai nU,B2⟩
          case measure=>simp[intOf]
         .have hβ:y/65536%256=((KX y 2).toNat:Int):=by rw[Hk];unfold Wh;simp
          have STEP:=Ai (show(Iy y).take 6=(Iy y).take 5++[KX y 2]from rfl);have hl:((Iy y).take 5).length=5:=rfl;obtain⟨L,hL⟩:∃L,(Iy y).take 5=L:=⟨_,rfl⟩;rw[hL]at NG hl STEP;generalize KX y 2=β at hβ STEP;have HO:=Ai (NG.alloc (.cells #[.int .u8 (β.toNat:Int)] 5));clear NG hL HV;go_wp2_with (at_builtin;go_must(refine wpList_append_own _ rfl _ _ 217 rfl w.1.size 5 i0 (.int .u8 0) 1 1 underlying217 hi0 hz0 hz1 hz2 rfl Zb _ _ _ rfl HO ⟨wr.1.size,0,none⟩ 1 1 (Lib.byteCells [β]) rfl rfl (C9 wr _ 5) YO Zn Za Ur ?_;intro v2 w2 hown2 hgrow2 _));have B2:=Ai (DJ (HB.alloc HB.size _) Bj Ur HO hgrow2);have O2:En w2 w.1.size v2 (L++[β]):=En.app hown2;go_roundw;case rel=>exact⟨6,Za,by go_num,Ai nU,B2⟩
          case measure=>simp[intOf]
         .have hβ:y/256%256=((KX y 1).toNat:Int):=by rw[Hk];unfold Wh;simp
          have STEP:=Ai (show(Iy y).take 7=(Iy y).take 6++[KX y 1]from rfl);have hl:((Iy y).take 6).length=6:=rfl;obtain⟨L,hL⟩:∃L,(Iy y).take 6=L:=⟨_,rfl⟩;rw[hL]at NG hl STEP;generalize KX y 1=β at hβ STEP;have HO:=Ai (NG.alloc (.cells #[.int .u8 (β.toNat:Int)] 5));clear NG hL HV;go_wp2_with (at_builtin;go_must(refine wpList_append_own _ rfl _ _ 217 rfl w.1.size 5 i0 (.int .u8 0) 1 1 underlying217 hi0 hz0 hz1 hz2 rfl Zb _ _ _ rfl HO ⟨wr.1.size,0,none⟩ 1 1 (Lib.byteCells [β]) rfl rfl (C9 wr _ 5) YO Zn Za Ur ?_;intro v2 w2 hown2 hgrow2 _));have B2:=Ai (DJ (HB.alloc HB.size _) Bj Ur HO hgrow2);have O2:En w2 w.1.size v2 (L++[β]):=En.app hown2;go_roundw;case rel=>exact⟨7,Za,by go_num,Ai nU,B2⟩
          case measure=>simp[intOf]
         .have hβ:y%256=((KX y 0).toNat:Int):=by rw[Hk];unfold Wh;simp
          have STEP:=Ai (show(Iy y).take 8=(Iy y).take 7++[KX y 0]from rfl);have hl:((Iy y).take 7).length=7:=rfl;obtain⟨L,hL⟩:∃L,(Iy y).take 7=L:=⟨_,rfl⟩;rw[hL]at NG hl STEP;generalize KX y 0=β at hβ STEP;have HO:=Ai (NG.alloc (.cells #[.int .u8 (β.toNat:Int)] 5));clear NG hL HV;go_wp2_with (at_builtin;go_must(refine wpList_append_own _ rfl _ _ 217 rfl w.1.size 5 i0 (.int .u8 0) 1 1 underlying217 hi0 hz0 hz1 hz2 rfl Zb _ _ _ rfl HO ⟨wr.1.size,0,none⟩ 1 1 (Lib.byteCells [β]) rfl rfl (C9 wr _ 5) YO Zn Za Ur ?_;intro v2 w2 hown2 hgrow2 _));have B2:=Ai (DJ (HB.alloc HB.size _) Bj Ur HO hgrow2);have O2:En w2 w.1.size v2 (L++[β]):=En.app hown2;go_roundw;case rel=>exact⟨8,Za,by go_num,Ai nU,B2⟩
          case measure=>simp[intOf]
        .have hm8:m=8:=Za;subst hm8;have hcv:=Q7 NG (by simp[Iy]);rw[show(Iy y).take 8=Iy y from rfl]at hcv;clear NG;go_wp2;go_ret;exact⟨by rw[HV.out];rfl,HB⟩
end Go.Proofs.YtllmmkchokkaaaaGreatDoor
namespace Go.Proofs.YtllmmkchokkaaaaGreatDoor
open Go.RowKit Go.Proofs.Tryz
theorem WK:∀(k u:Nat),u<10^(k+1)->Lib.nDigits u<=k+1
 |0,u,h=>by rw[Lib.nDigits_small (by simpa using h)];exact Aw _
 |k+1,u,h=>by
  by_cases h0:u<10;.rw[Lib.nDigits_small h0];omega
  .rw[Lib.nDigits_big h0];have h2:10^(k+1+1)=10^(k+1)*10:=Nat.pow_succ 10 (k+1);have:=WK k (u/10) Za;omega
theorem Ns{n:Int}(h:n<=9223372036854775807):(CF n).size<=20:=by
 have e:(CF n).size=(Lib.decDigits n.toNat).length:=by simp[CF,ByteArray.size]
 rw[e,Lib.decDigits_length];exact WK 19 _ Za
theorem mL (s:ByteArray):(OC s).length<=3*s.size+2:=by have:=KR s s.size;unfold OC;simp;omega
theorem oN{x:Wt}(h:PB x=true):x.kind.size<=20/\x.name.size<=20/\0<=x.ver:=by unfold PB at h;simp only[AG,decide_eq_true_eq]at h;exact⟨Gu h.1,Gu h.2.1,h.2.2⟩
theorem oG{x:Wr}(h:Er x=true):x.kind.size<=20/\x.name.size<=20/\0<=x.seen/\x.text.size<=300/\x.hold.size<=20/\0<=x.op/\x.op<=5:=by
 unfold Er Ed at h;simp only[AG,decide_eq_true_eq,Bool.or_eq_true]at h;obtain⟨⟨h1,h2,h3,h4,h5⟩,h6⟩:=h;refine⟨Gu h1,Gu h2,h3,h4,?_,?_⟩
 .rcases h5 with q|q
  .have:x.hold=⟨#[]⟩:=of_decide_eq_true q;rw[this];decide
  .exact Gu q
 .unfold Ew at h6;by_cases e1:x.op=1;.omega
  by_cases e2:x.op=2;.omega
  by_cases e3:x.op=3;.omega
  by_cases e4:x.op=4;.omega
  by_cases e5:x.op=5;.omega
  rw[if_neg e1,if_neg e2,if_neg e3,if_neg e4,if_neg e5]at h6;cases h6
theorem T0{x:Wt}(h:PB x=true) (hv:x.ver<=9223372036854775807):(Ix x).size<=100:=by obtain⟨h1,h2,h3⟩:=oN h;have h4:=Ns hv;rw[V2];omega
theorem TR{x:Wr}(h:Er x=true) (hv:x.seen<=9223372036854775807):(IB x).size<=1200:=by obtain⟨h1,h2,h3,h4,h5,h6,h7⟩:=oG h;have h8:=Ns hv;have h9:=Ns (n:=x.op) Za;have h10:=mL x.text;rw[WE];omega
theorem TN (xs:List ByteArray):(Gq xs).length+1=(Jk xs).size:=by have h:=congrArg List.length (Ii xs);have e:(Jk xs).size=(Jk xs).data.toList.length:=Ze;rw[e,h];simp
theorem T7{u:Bu}(hb:Pc u) (hi:P0 u):Jg u:=by
 refine⟨λi h=>?_,λi h=>?_⟩;.obtain⟨h1,h2,h3⟩:=oN (hb.ws i h);have h4:=T0 (hb.ws i h) (hi.w i h);have h5:=TN [⟨#[119,97,110,116]⟩,(u.ws i).kind,(u.ws i).name,CF (u.ws i).ver];have h6:(Jk [⟨#[119,97,110,116]⟩,(u.ws i).kind,(u.ws i).name,CF (u.ws i).ver]).size<=100:=h4;exact⟨Za,Za,h3,hi.w i h,Za,Za⟩
 .obtain⟨h1,h2,h3,h4,h5,h6,h7⟩:=oG (hb.rs i h);have h8:=TR (hb.rs i h) (hi.r i h);have h9:=TN [⟨#[119,114,105,116,101]⟩,CF (u.rs i).op,(u.rs i).kind,(u.rs i).name,CF (u.rs i).seen,⟨(OC (u.rs i).text).toArray⟩,(u.rs i).hold];have h10:(Jk [⟨#[119,114,105,116,101]⟩,CF (u.rs i).op,(u.rs i).kind,(u.rs i).name,CF (u.rs i).seen,⟨(OC (u.rs i).text).toArray⟩,(u.rs i).hold]).size<=1200:=h8;exact⟨h6,Za,h3,hi.r i h,Za,Za,Za⟩
theorem UC{u:Bu}(hb:Pc u) (hi:P0 u):∀k,k<=u.wn->(VU u k).size<=100*k
 |0,_=>Aw _
 |k+1,h=>by
  have h1:=UC hb hi k Za;have h2:=T0 (hb.ws k Za) (hi.w k Za);have e:(VU u (k+1)).size=(VU u k).size+(Ix (u.ws k)).size:=by simp[VU]
  omega
theorem fV{u:Bu}(hb:Pc u) (hi:P0 u):∀k,k<=u.rn->(Yh u k).size<=1000+1200*k
 |0,_=>by have h1:=UC hb hi u.wn Bj;have:=hb.wn;show(VU u u.wn).size<=_;omega
 |k+1,h=>by
  have h1:=fV hb hi k Za;have h2:=TR (hb.rs k Za) (hi.r k Za);have e:(Yh u (k+1)).size=(Yh u k).size+(IB (u.rs k)).size:=by simp[Yh]
  omega
theorem kP{u:Bu}(hb:Pc u) (hi:P0 u):pP u:=by have h1:=hb.wn;have h2:=hb.rn;exact⟨λk h=>by have:=UC hb hi k h;omega,λk h=>by have:=fV hb hi k h;omega⟩
end Go.Proofs.YtllmmkchokkaaaaGreatDoor
