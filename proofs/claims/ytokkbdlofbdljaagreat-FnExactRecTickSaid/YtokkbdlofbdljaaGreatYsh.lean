import Derived.Test.YtokkbdlofbdljaaGreatRa
import Derived.Test.YtokkbdlofbdljaaGreatSb
import Derived.Laws.CopyRow
import Derived.Test.YtokkbdlofbdljaaGreatW
import Derived.Test.YtokkbdlofbdljaaGreatV
namespace Go.Proofs.YtokkbdlofbdljaaGreat
open Go.RowKit
set_option maxHeartbeats 8000000
theorem zero151:Tryz.zeroCells168.size=120:=by kernel_rfl
theorem Jj (w:World):RowF (w.alloc (.cells Tryz.zeroCells168 168)) w.1.size 120 (fun j=>Tryz.zeroCells168.getD j undef):=by
 refine ⟨by simp,fun j=>World.frozen?_alloc_at _ _ _ _ rfl,fun j hj=>?_⟩
 rw [World.cell?_alloc_new,Array.getElem?_eq_getElem (by rw [zero151];exact hj)]
 simp [Array.getD,hj]
theorem Kz {c:Nat→Value} {m:Nat} {x:Nat→Sl} (h:∀ i,i<m→atSl c i (x i)):∀ u ∈ Zg (m*2) c,u.oneCell'=true:=fun u hu=>by
 obtain ⟨j,hj,rfl⟩:=List.mem_map.1 hu
 have hj':j<m*2:=by simpa using hj
 obtain ⟨a0,a1⟩:=h (j / 2) (by omega)
 rcases (show j=j / 2*2∨j=j / 2*2+1 by omega) with e|e
 ·rw [e,a0];rfl
 ·rw [e,a1];rfl
theorem Jn {w:World} {g m l:Nat} {c:Nat→Value} (h:RowF w g m c) (hl:l≤m):∀ j u,(Zg l c)[j]? = some u→w.cell? ((⟨g,0,none⟩:Addr).add j)=some u:=fun j u hu=>by
 obtain ⟨h1,rfl⟩:=ZP hu
 rw [show ((⟨g,0,none⟩:Addr).add j)=⟨g,j,none⟩ by unfold Addr.add;split<;>simp_all]
 exact h.cell j (by omega)
theorem Er (na:Nat) (x:Nat→Sl) (nb:Nat) (y:Nat→Sl) (p qa qb i:Nat) (ha:qa=min (na-p) 60) (hb:qb=min (nb-p) 60) (hi:i<60):mgS qa (fun i=>x (p+i)) qb (fun i=>y (p+i)) i=mgS na x nb y (p+i):=by
 unfold mgS
 have e1:(i<qa)=(p+i<na):=propext ⟨fun _=>by omega,fun _=>by omega⟩
 have e2:(i<qb)=(p+i<nb):=propext ⟨fun _=>by omega,fun _=>by omega⟩
 simp only [e1,e2]
def Nl:Value→Nat
 | .slice _ n _=>n
 | _=>0
theorem SlsIn.next {w:World} {lo hi b g k p q n m:Nat} {x:Nat→Sl} (h:SlsIn w lo hi (some ⟨b,g,none⟩) m (fun i=>x (p+i))) (hn:n-p=m) (hq:q=min m 60) (hk:m≤k):SlsIn w lo hi (some ⟨b,if k=q then g else g+q*2,none⟩) (n-(p+60)) (fun i=>x (p+60+i)):=fun i hi'=>by
 obtain ⟨b',off,e1,e2,e3,e4⟩:=h (60+i) (by omega)
 obtain ⟨rfl,rfl⟩:b=b'∧g=off:=by simpa using e1
 refine ⟨b,_,rfl,e2,e3,?_⟩
 rw [if_neg (by omega),show g+q*2+i*2=g+(60+i)*2 by omega]
 show SlCells w b (g+(60+i)*2) (x (p+60+i))
 rw [Nat.add_assoc p 60 i]
 exact e4
theorem Nq {w0 w:World} {v:Value} {n:Nat} {c:Nat→Value} {x:Nat→Sl} (h:w.ownsRow w0.1.size 109 2 v n (Zg (n*2) c)) (hat:∀ i,i<n→atSl c i (x i)) (hb:Below w0.1.size w0 w):∃ ad' cap' g,Ending.returned v=.returned (.slice ad' n cap')∧SlsAt w ad' g n x∧w0.1.size≤g∧(n≠0→g<w.1.size)∧Below w0.1.size w0 w:=by
 by_cases hn:0<n
 ·obtain ⟨g,cap,cur,rfl,h1,h2⟩:=h.2.resolve_left (fun e=>by omega)
  exact ⟨_,_,g,rfl,⟨fun _=>rfl,fun _=>⟨c,JJ h,hat⟩⟩,h1,fun _=>(h.lt g rfl).2,hb⟩
 ·obtain rfl:n=0:=by omega
  rcases h.2 with ⟨rfl,_⟩|⟨g,cap,cur,rfl,h1,h2⟩
  ·exact ⟨none,0,w0.1.size,rfl,⟨fun h=>absurd h hn,fun h=>absurd h hn⟩,lrf _,fun h=>absurd rfl h,hb⟩
  ·exact ⟨_,cap,g,rfl,⟨fun h=>absurd h hn,fun h=>absurd h hn⟩,h1,fun h=>absurd rfl h,hb⟩
theorem KV {na nb mx p pa pb qa qb mq ra rb ba ga ka bb gb kb lo hi:Nat} {x y:Nat→Sl} {w wr w6 w7 w8:World} {v9 v7:Value} {c c6:Nat→Value} {row:Option Nat} (hhi:hi≤w.1.size) (hpa:na-p=pa) (hpb:nb-p=pb) (hqa:qa=min pa 60) (hqb:qb=min pb 60) (hra:ra=pa-qa) (hrb:rb=pb-qb) (k1:pa≤ka) (k2:pb≤kb) (hp:p<mx) (hgo:0<pa∨0<pb) (hmq:min (p+60) mx=p+mq)
  (sx:SlsIn wr lo hi (some ⟨ba,ga,none⟩) pa (fun i=>x (p+i))) (sy:SlsIn wr lo hi (some ⟨bb,gb,none⟩) pb (fun i=>y (p+i))) (zr:w.1.size≤wr.1.size) (F6:FrP (fun q=>q=wr.1.size) wr w6) (HBW:Below w.1.size w w6) (hat:∀ i,i<p→atSl c i (mgS na x nb y i)) (at6:∀ i,i<mq→atSl c6 i (mgS qa (fun i=>x (p+i)) qb (fun i=>y (p+i)) i))
  (hrow:row=v9.ownBlock) (ho6:w6.ownsRow w.1.size 109 2 v9 p (Zg (p*2) c)) (ho7:w7.ownsRow w.1.size 109 2 v7 (p+mq) (Zg (p*2) c ++ Zg (mq*2) c6)) (hg7:w6.grownBy w7 row) (hw8:Below w7.1.size w7 w8) :
  (∃ (p ga' gb' ka' kb':Nat) (v9:Value) (c:Nat→Value),v9=v7∧p≤mx+60∧Value.slice (if ka=qa then some ⟨ba,ga,none⟩ else some ⟨ba,ga+qa*2,none⟩) ra (ka-qa)=.slice (some ⟨ba,ga',none⟩) (na-p) ka'∧Value.slice (if kb=qb then some ⟨bb,gb,none⟩ else some ⟨bb,gb+qb*2,none⟩) rb (kb-qb)=.slice (some ⟨bb,gb',none⟩) (nb-p) kb'∧na-p≤ka'∧nb-p≤kb'∧Below w.1.size w w8∧Hid (SlsIn w8 lo hi (some ⟨ba,ga',none⟩) (na-p) (fun i=>x (p+i)))∧Hid (SlsIn w8 lo hi (some ⟨bb,gb',none⟩) (nb-p) (fun i=>y (p+i)))∧Hid (w8.ownsRow w.1.size 109 2 v9 (min p mx) (Zg (min p mx*2) c))∧Hid (∀ i,i<min p mx→atSl c i (mgS na x nb y i))) ∧
  Nl (.slice (if ka=qa then some ⟨ba,ga,none⟩ else some ⟨ba,ga+qa*2,none⟩) ra (ka-qa))+Nl (.slice (if kb=qb then some ⟨bb,gb,none⟩ else some ⟨bb,gb+qb*2,none⟩) rb (kb-qb))<Nl (.slice (some ⟨ba,ga,none⟩) pa ka)+Nl (.slice (some ⟨bb,gb,none⟩) pb kb):=by
 have B67:Below w.1.size w6 w7:=(FrP.of_grown hg7).below (fun k hk e=>by have:=(ho6.lt k (hrow▸e)).1;omega) HBW.size
 have z6:=HBW.size
 have z7:=B67.size
 have B68:Below w.1.size w6 w8:=B67.trans (hw8.mono (by omega))
 have Br8:Below w.1.size wr w8:=(F6.below (fun k hk e=>by omega) zr).trans B68
 refine ⟨⟨p+60,if ka=qa then ga else ga+qa*2,if kb=qb then gb else gb+qb*2,ka-qa,kb-qb,v7,XD c (p*2) c6,rfl,by omega,?_,?_,by omega,by omega,HBW.trans B68,hid ((sx.next hpa hqa k1).below Br8 hhi),hid ((sy.next hpb hqb k2).below Br8 hhi),hid ?_,hid ?_⟩,?_⟩
 ·rw [show na-(p+60)=ra by omega];split<;>rfl
 ·rw [show nb-(p+60)=rb by omega];split<;>rfl
 ·rw [hmq,Nat.add_mul,←JW]
  exact Yr ho7 (FrP.of_below (P:=fun _=>False) hw8) (fun _ _ h=>h)
 ·rw [hmq]
  intro i hi'
  by_cases h:i<p
  ·obtain ⟨a0,a1⟩:=hat i h
   exact ⟨(if_pos (by omega)).trans a0,(if_pos (by omega)).trans a1⟩
  ·obtain ⟨j,rfl⟩:∃ j,i=p+j:=⟨i-p,by omega⟩
   obtain ⟨a0,a1⟩:=at6 j (by omega)
   rw [Er na x nb y p qa qb j (by omega) (by omega) (by omega)] at a0 a1
   exact ⟨(if_neg (by omega)).trans (by rw [show (p+j)*2-p*2=j*2 by omega];exact a0),(if_neg (by omega)).trans (by rw [show (p+j)*2+1-p*2=j*2+1 by omega];exact a1)⟩
 ·show ra+rb<pa+pb
  omega
theorem FU {P:Prop} (h:P:=by
  by_cases h3:pb≤60
  ·go_wp2
   have hne:Nonempty (GW (wr.alloc (.cells Tryz.zeroCells168 168))):=⟨⟨_,br _ _⟩⟩
   refine Zf (by kernel_rfl) (by kernel_rfl) ?_
   repeat (refine wpQuiet_step (fun K hK=>?_);go_simp;(try rw [if_neg (show ¬((60:Int)<(pa:Int)) by omega)]);(try rw [if_pos (show (60:Int)<(pa:Int) by omega)]);(try rw [if_neg (show ¬((60:Int)<(pb:Int)) by omega)]);(try rw [if_pos (show (60:Int)<(pb:Int) by omega)]);(try go_simp);refine hK _ ?_;clear hK K)
   refine wpQuiet_nil ?_
   rintro w5 ⟨u,hu⟩
   have hw5:Below (wr.alloc (.cells Tryz.zeroCells168 168)).1.size (wr.alloc (.cells Tryz.zeroCells168 168)) w5:=hu▸u.prop
   have hr5:Below wr.1.size wr w5:=(Zb _ _).trans (hw5.mono (by simp))
   have RZ:=hid ((Jj wr).below hw5 (by simp))
   have hz5:=hr5.size
   clear hu u hne hw5
   go_wp2_with fail
   refine (Y9 pa pb (fun i=>x (p+i)) (fun i=>y (p+i)) ba ga ka bb gb kb wr.1.size _ w5 lo hi (by omega) (by omega) (by omega) RZ.out ((sx.out.take (by omega)).below hr5 (by omega)) ((sy.out.take (by omega)).below hr5 (by omega))).mono ?_
   rintro e w6 ⟨⟨cap,rfl⟩,⟨c6,rr6,at6⟩,fr6⟩
   obtain ⟨mq,hmq⟩:∃ mq,max pa pb=mq:=⟨_,rfl⟩
   rw [hmq] at at6 ⊢
   have n1:mq≤60:=by omega
   have n2:p<mx:=by have:=HPA.out;have:=HPB.out;omega
   have n3:min p mx=p:=by omega
   have n4:Hid (min (p+60) mx=p+mq):=(by have:=HPA.out;have:=HPB.out;have:=HMX.out;exact (by omega:min (p+60) mx=p+mq))
   have F6:=hid ((FrP.of_below (P:=fun q=>q=wr.1.size) hr5).trans fr6)
   rw [n3] at ho hat
   have HO6:=hid (Yr ho.out F6.out (fun g hg e=>by have:=(ho.out.lt g hg).2;omega))
   have AT6:=hid at6
   have RR6:=hid rr6
   have zf:=F6.out.size
   have ONE:=hid (fun u (hu:u ∈ Zg (mq*2) c6)=>Kz at6 u hu)
   have NEWS:=hid (fun j u (hu:(Zg (mq*2) c6)[j]? = some u)=>Jn rr6 (by omega) j u hu)
   have HBW:=hid (b0.trans (F6.out.below (B:=w.1.size) (fun q hq e=>by omega) (by omega)))
   clear rr6 at6 fr6 hmq n3 RZ
   go_wp2_with (at_builtin;go_must (refine wpList_append_own_at _ rfl _ _ 32 rfl w.1.size 109 i0 _ 2 24 Tryz.underlying32 hi0 hz0 hz1 hz2 rfl (by decide) _ p (Zg (p*2) c) rfl HO6.out ⟨wr.1.size,0,none⟩ mq cap (Zg (mq*2) c6) rfl (Zj _ _) NEWS.out ONE.out (by unfold maxLen;omega) (by omega) (by omega) ?_;intro v7 w7 hown7 hgrow7 hnil7 hat7;have HO7:=hid hown7;have HG7:=hid hgrow7;clear hown7 hgrow7 hnil7 hat7))
   have hne:Nonempty (GW w7):=⟨⟨_,br _ _⟩⟩
   refine Zf (by kernel_rfl) (by kernel_rfl) ?_
   repeat (refine wpQuiet_step (fun K hK=>?_);go_simp;(try rw [if_neg (show ¬((60:Int)<(pa:Int)) by omega)]);(try rw [if_pos (show (60:Int)<(pa:Int) by omega)]);(try rw [if_neg (show ¬((60:Int)<(pb:Int)) by omega)]);(try rw [if_pos (show (60:Int)<(pb:Int) by omega)]);(try go_simp);refine hK _ ?_;clear hK K)
   refine wpQuiet_nil ?_
   rintro w8 ⟨u,hu⟩
   have hw8:Below w7.1.size w7 w8:=hu▸u.prop
   clear hu u hne
   go_wp2
   exact KV (qa:=pa) (qb:=pb) hhi HPA.out HPB.out (by omega) (by omega) (by omega) (by omega) k1 k2 n2 hgo n4.out sx.out sy.out zr F6.out HBW.out hat.out AT6.out rfl HO6.out HO7.out HG7.out hw8
  ·have je:60≤kb:=by omega
   have jf:(60:Int)≤kb:=by omega
   have jg:60≤pb:=by omega
   have jh:(60:Int)≤pb:=by omega
   go_wp2
   have hne:Nonempty (GW (wr.alloc (.cells Tryz.zeroCells168 168))):=⟨⟨_,br _ _⟩⟩
   refine Zf (by kernel_rfl) (by kernel_rfl) ?_
   repeat (refine wpQuiet_step (fun K hK=>?_);go_simp;(try rw [if_neg (show ¬((60:Int)<(pa:Int)) by omega)]);(try rw [if_pos (show (60:Int)<(pa:Int) by omega)]);(try rw [if_neg (show ¬((60:Int)<(pb:Int)) by omega)]);(try rw [if_pos (show (60:Int)<(pb:Int) by omega)]);(try go_simp);refine hK _ ?_;clear hK K)
   refine wpQuiet_nil ?_
   rintro w5 ⟨u,hu⟩
   have hw5:Below (wr.alloc (.cells Tryz.zeroCells168 168)).1.size (wr.alloc (.cells Tryz.zeroCells168 168)) w5:=hu▸u.prop
   have hr5:Below wr.1.size wr w5:=(Zb _ _).trans (hw5.mono (by simp))
   have RZ:=hid ((Jj wr).below hw5 (by simp))
   have hz5:=hr5.size
   clear hu u hne hw5
   go_wp2_with fail
   refine (Y9 pa 60 (fun i=>x (p+i)) (fun i=>y (p+i)) ba ga ka bb gb kb wr.1.size _ w5 lo hi (by omega) (by omega) (by omega) RZ.out ((sx.out.take (by omega)).below hr5 (by omega)) ((sy.out.take (by omega)).below hr5 (by omega))).mono ?_
   rintro e w6 ⟨⟨cap,rfl⟩,⟨c6,rr6,at6⟩,fr6⟩
   obtain ⟨mq,hmq⟩:∃ mq,max pa 60=mq:=⟨_,rfl⟩
   rw [hmq] at at6 ⊢
   have n1:mq≤60:=by omega
   have n2:p<mx:=by have:=HPA.out;have:=HPB.out;omega
   have n3:min p mx=p:=by omega
   have n4:Hid (min (p+60) mx=p+mq):=(by have:=HPA.out;have:=HPB.out;have:=HMX.out;exact (by omega:min (p+60) mx=p+mq))
   have F6:=hid ((FrP.of_below (P:=fun q=>q=wr.1.size) hr5).trans fr6)
   rw [n3] at ho hat
   have HO6:=hid (Yr ho.out F6.out (fun g hg e=>by have:=(ho.out.lt g hg).2;omega))
   have AT6:=hid at6
   have RR6:=hid rr6
   have zf:=F6.out.size
   have ONE:=hid (fun u (hu:u ∈ Zg (mq*2) c6)=>Kz at6 u hu)
   have NEWS:=hid (fun j u (hu:(Zg (mq*2) c6)[j]? = some u)=>Jn rr6 (by omega) j u hu)
   have HBW:=hid (b0.trans (F6.out.below (B:=w.1.size) (fun q hq e=>by omega) (by omega)))
   clear rr6 at6 fr6 hmq n3 RZ
   go_wp2_with (at_builtin;go_must (refine wpList_append_own_at _ rfl _ _ 32 rfl w.1.size 109 i0 _ 2 24 Tryz.underlying32 hi0 hz0 hz1 hz2 rfl (by decide) _ p (Zg (p*2) c) rfl HO6.out ⟨wr.1.size,0,none⟩ mq cap (Zg (mq*2) c6) rfl (Zj _ _) NEWS.out ONE.out (by unfold maxLen;omega) (by omega) (by omega) ?_;intro v7 w7 hown7 hgrow7 hnil7 hat7;have HO7:=hid hown7;have HG7:=hid hgrow7;clear hown7 hgrow7 hnil7 hat7))
   have hne:Nonempty (GW w7):=⟨⟨_,br _ _⟩⟩
   refine Zf (by kernel_rfl) (by kernel_rfl) ?_
   repeat (refine wpQuiet_step (fun K hK=>?_);go_simp;(try rw [if_neg (show ¬((60:Int)<(pa:Int)) by omega)]);(try rw [if_pos (show (60:Int)<(pa:Int) by omega)]);(try rw [if_neg (show ¬((60:Int)<(pb:Int)) by omega)]);(try rw [if_pos (show (60:Int)<(pb:Int) by omega)]);(try go_simp);refine hK _ ?_;clear hK K)
   refine wpQuiet_nil ?_
   rintro w8 ⟨u,hu⟩
   have hw8:Below w7.1.size w7 w8:=hu▸u.prop
   clear hu u hne
   go_wp2
   exact KV (qa:=pa) (qb:=60) hhi HPA.out HPB.out (by omega) (by omega) (by omega) (by omega) k1 k2 n2 hgo n4.out sx.out sy.out zr F6.out HBW.out hat.out AT6.out rfl HO6.out HO7.out HG7.out hw8):P:=h
theorem FT {P:Prop} (h:P:=by
  refine bodyPost_ret (v:=v9) (by simp [results,Tryz.results163,go_sem]) rfl ?_
  obtain ⟨ad',cap',g,e1,e2,e3,e4,e5⟩:=Nq HO.out HAT.out b0
  exact ⟨ad',⟨cap',e1⟩,g,e2,e3,e4,e5⟩):P:=h
set_option maxRecDepth 100000 in
theorem UB (na nb:Nat) (x y:Nat→Sl) (ba oa ca bb ob cb:Nat) (w:World) (lo hi:Nat) (hhi:hi≤w.1.size) (hla:(na:Int)≤1048576) (hlb:(nb:Int)≤1048576) (hca:na≤ca) (hcb:nb≤cb) (hx:SlsIn w lo hi (some ⟨ba,oa,none⟩) na x) (hy:SlsIn w lo hi (some ⟨bb,ob,none⟩) nb y) :
  Calls Tryz.prog 163 #[.slice (some ⟨ba,oa,none⟩) na ca,.slice (some ⟨bb,ob,none⟩) nb cb] w fun e w'=>∃ ad' cap' g,e=.returned (.slice ad' (max na nb) cap')∧SlsAt w' ad' g (max na nb) (mgS na x nb y)∧w.1.size≤g∧(max na nb≠0→g<w'.1.size)∧Below w.1.size w w':=by
 obtain ⟨i0,hi0,hz0,hz1,hz2⟩:=info_parts Tryz.info109
 have HX:=hid hx
 have HY:=hid hy
 clear hx hy
 obtain ⟨mx,hmx⟩:∃ mx,max na nb=mx:=⟨_,rfl⟩
 have m1:na≤mx:=by omega
 have m2:nb≤mx:=by omega
 have m3:(mx:Int)≤1048576:=by omega
 have HMX:=hid hmx
 have HI:=hid (show (max (na:Int) (nb:Int))=(mx:Int) by omega)
 rw [hmx]
 clear hmx
 go_enter Tryz.func163,Tryz.ntmps163
 go_wp2_with (at_make;refine wpList_make_own _ rfl _ _ 32 rfl w.1.size 109 i0 _ 2 Tryz.underlying32 hi0 hz0 hz1 .i64 .i64 _ mx rfl rfl (by have:=HMX.out;split<;>omega) (by rw [hz2];omega) (by unfold maxLen;omega) (lrf _) ?_;intro w1 hown1 hgrow1;have HO1:=hid hown1;have HG1:=hid hgrow1;(clear hown1 hgrow1);(generalize (if na<nb then (nb:Int) else (na:Int))=z13))
 have hB1:Below w.1.size w w1:=(br _ _).grown HG1.out (lrf _) (by simp)
 go_loopw [0,1,5] (fun a b v wr=>∃ (p ga gb ka kb:Nat) (v9:Value) (c:Nat→Value),v9=v∧p≤mx+60∧a=.slice (some ⟨ba,ga,none⟩) (na-p) ka∧b=.slice (some ⟨bb,gb,none⟩) (nb-p) kb∧na-p≤ka∧nb-p≤kb∧Below w.1.size w wr∧Hid (SlsIn wr lo hi (some ⟨ba,ga,none⟩) (na-p) (fun i=>x (p+i)))∧Hid (SlsIn wr lo hi (some ⟨bb,gb,none⟩) (nb-p) (fun i=>y (p+i)))∧Hid (wr.ownsRow w.1.size 109 2 v9 (min p mx) (Zg (min p mx*2) c))∧Hid (∀ i,i<min p mx→atSl c i (mgS na x nb y i))) (fun a b _ _=>Nl a+Nl b)
 case atStart=>exact ⟨0,oa,ob,ca,cb,_,fun _=>undef,rfl,zle _,rfl,rfl,by omega,by omega,hB1,hid (by simpa using HX.out.below hB1 hhi),hid (by simpa using HY.out.below hB1 hhi),hid (by simpa [Zg] using HO1.out),fun i hi=>absurd hi (by omega)⟩
 case round=>
  obtain ⟨p,ga,gb,ka,kb,v9,c,rfl,hp,rfl,rfl,k1,k2,b0,sx,sy,ho,hat⟩:=hrel
  obtain ⟨pa,hpa⟩:∃ pa,na-p=pa:=⟨_,rfl⟩
  obtain ⟨pb,hpb⟩:∃ pb,nb-p=pb:=⟨_,rfl⟩
  rw [hpa] at k1 sx ⊢
  rw [hpb] at k2 sy ⊢
  have HPA:=hid hpa
  have HPB:=hid hpb
  clear hpa hpb
  have zr:=b0.size
  by_cases hgo:0<pa∨0<pb
  ·by_cases h1:0<pa
   ·have i1:(0:Int)<pa:=by omega
    by_cases h2:pa≤60
    ·exact FU
    ·by_cases h3:pb≤60
     ·have ja:60≤ka:=by omega
      have jb:(60:Int)≤ka:=by omega
      have jc:60≤pa:=by omega
      have jd:(60:Int)≤pa:=by omega
      go_wp2
      have hne:Nonempty (GW (wr.alloc (.cells Tryz.zeroCells168 168))):=⟨⟨_,br _ _⟩⟩
      refine Zf (by kernel_rfl) (by kernel_rfl) ?_
      repeat (refine wpQuiet_step (fun K hK=>?_);go_simp;(try rw [if_neg (show ¬((60:Int)<(pa:Int)) by omega)]);(try rw [if_pos (show (60:Int)<(pa:Int) by omega)]);(try rw [if_neg (show ¬((60:Int)<(pb:Int)) by omega)]);(try rw [if_pos (show (60:Int)<(pb:Int) by omega)]);(try go_simp);refine hK _ ?_;clear hK K)
      refine wpQuiet_nil ?_
      rintro w5 ⟨u,hu⟩
      have hw5:Below (wr.alloc (.cells Tryz.zeroCells168 168)).1.size (wr.alloc (.cells Tryz.zeroCells168 168)) w5:=hu▸u.prop
      have hr5:Below wr.1.size wr w5:=(Zb _ _).trans (hw5.mono (by simp))
      have RZ:=hid ((Jj wr).below hw5 (by simp))
      have hz5:=hr5.size
      clear hu u hne hw5
      go_wp2_with fail
      refine (Y9 60 pb (fun i=>x (p+i)) (fun i=>y (p+i)) ba ga ka bb gb kb wr.1.size _ w5 lo hi (by omega) (by omega) (by omega) RZ.out ((sx.out.take (by omega)).below hr5 (by omega)) ((sy.out.take (by omega)).below hr5 (by omega))).mono ?_
      rintro e w6 ⟨⟨cap,rfl⟩,⟨c6,rr6,at6⟩,fr6⟩
      obtain ⟨mq,hmq⟩:∃ mq,max 60 pb=mq:=⟨_,rfl⟩
      rw [hmq] at at6 ⊢
      have n1:mq≤60:=by omega
      have n2:p<mx:=by have:=HPA.out;have:=HPB.out;omega
      have n3:min p mx=p:=by omega
      have n4:Hid (min (p+60) mx=p+mq):=(by have:=HPA.out;have:=HPB.out;have:=HMX.out;exact (by omega:min (p+60) mx=p+mq))
      have F6:=hid ((FrP.of_below (P:=fun q=>q=wr.1.size) hr5).trans fr6)
      rw [n3] at ho hat
      have HO6:=hid (Yr ho.out F6.out (fun g hg e=>by have:=(ho.out.lt g hg).2;omega))
      have AT6:=hid at6
      have RR6:=hid rr6
      have zf:=F6.out.size
      have ONE:=hid (fun u (hu:u ∈ Zg (mq*2) c6)=>Kz at6 u hu)
      have NEWS:=hid (fun j u (hu:(Zg (mq*2) c6)[j]? = some u)=>Jn rr6 (by omega) j u hu)
      have HBW:=hid (b0.trans (F6.out.below (B:=w.1.size) (fun q hq e=>by omega) (by omega)))
      clear rr6 at6 fr6 hmq n3 RZ
      go_wp2_with (at_builtin;go_must (refine wpList_append_own_at _ rfl _ _ 32 rfl w.1.size 109 i0 _ 2 24 Tryz.underlying32 hi0 hz0 hz1 hz2 rfl (by decide) _ p (Zg (p*2) c) rfl HO6.out ⟨wr.1.size,0,none⟩ mq cap (Zg (mq*2) c6) rfl (Zj _ _) NEWS.out ONE.out (by unfold maxLen;omega) (by omega) (by omega) ?_;intro v7 w7 hown7 hgrow7 hnil7 hat7;have HO7:=hid hown7;have HG7:=hid hgrow7;clear hown7 hgrow7 hnil7 hat7))
      have hne:Nonempty (GW w7):=⟨⟨_,br _ _⟩⟩
      refine Zf (by kernel_rfl) (by kernel_rfl) ?_
      repeat (refine wpQuiet_step (fun K hK=>?_);go_simp;(try rw [if_neg (show ¬((60:Int)<(pa:Int)) by omega)]);(try rw [if_pos (show (60:Int)<(pa:Int) by omega)]);(try rw [if_neg (show ¬((60:Int)<(pb:Int)) by omega)]);(try rw [if_pos (show (60:Int)<(pb:Int) by omega)]);(try go_simp);refine hK _ ?_;clear hK K)
      refine wpQuiet_nil ?_
      rintro w8 ⟨u,hu⟩
      have hw8:Below w7.1.size w7 w8:=hu▸u.prop
      clear hu u hne
      go_wp2
      exact KV (qa:=60) (qb:=pb) hhi HPA.out HPB.out (by omega) (by omega) (by omega) (by omega) k1 k2 n2 hgo n4.out sx.out sy.out zr F6.out HBW.out hat.out AT6.out rfl HO6.out HO7.out HG7.out hw8
     ·have ja:60≤ka:=by omega
      have jb:(60:Int)≤ka:=by omega
      have jc:60≤pa:=by omega
      have jd:(60:Int)≤pa:=by omega
      have je:60≤kb:=by omega
      have jf:(60:Int)≤kb:=by omega
      have jg:60≤pb:=by omega
      have jh:(60:Int)≤pb:=by omega
      go_wp2
      have hne:Nonempty (GW (wr.alloc (.cells Tryz.zeroCells168 168))):=⟨⟨_,br _ _⟩⟩
      refine Zf (by kernel_rfl) (by kernel_rfl) ?_
      repeat (refine wpQuiet_step (fun K hK=>?_);go_simp;(try rw [if_neg (show ¬((60:Int)<(pa:Int)) by omega)]);(try rw [if_pos (show (60:Int)<(pa:Int) by omega)]);(try rw [if_neg (show ¬((60:Int)<(pb:Int)) by omega)]);(try rw [if_pos (show (60:Int)<(pb:Int) by omega)]);(try go_simp);refine hK _ ?_;clear hK K)
      refine wpQuiet_nil ?_
      rintro w5 ⟨u,hu⟩
      have hw5:Below (wr.alloc (.cells Tryz.zeroCells168 168)).1.size (wr.alloc (.cells Tryz.zeroCells168 168)) w5:=hu▸u.prop
      have hr5:Below wr.1.size wr w5:=(Zb _ _).trans (hw5.mono (by simp))
      have RZ:=hid ((Jj wr).below hw5 (by simp))
      have hz5:=hr5.size
      clear hu u hne hw5
      go_wp2_with fail
      refine (Y9 60 60 (fun i=>x (p+i)) (fun i=>y (p+i)) ba ga ka bb gb kb wr.1.size _ w5 lo hi (by omega) (by omega) (by omega) RZ.out ((sx.out.take (by omega)).below hr5 (by omega)) ((sy.out.take (by omega)).below hr5 (by omega))).mono ?_
      rintro e w6 ⟨⟨cap,rfl⟩,⟨c6,rr6,at6⟩,fr6⟩
      obtain ⟨mq,hmq⟩:∃ mq,max 60 60=mq:=⟨_,rfl⟩
      rw [hmq] at at6 ⊢
      have n1:mq≤60:=by omega
      have n2:p<mx:=by have:=HPA.out;have:=HPB.out;omega
      have n3:min p mx=p:=by omega
      have n4:Hid (min (p+60) mx=p+mq):=(by have:=HPA.out;have:=HPB.out;have:=HMX.out;exact (by omega:min (p+60) mx=p+mq))
      have F6:=hid ((FrP.of_below (P:=fun q=>q=wr.1.size) hr5).trans fr6)
      rw [n3] at ho hat
      have HO6:=hid (Yr ho.out F6.out (fun g hg e=>by have:=(ho.out.lt g hg).2;omega))
      have AT6:=hid at6
      have RR6:=hid rr6
      have zf:=F6.out.size
      have ONE:=hid (fun u (hu:u ∈ Zg (mq*2) c6)=>Kz at6 u hu)
      have NEWS:=hid (fun j u (hu:(Zg (mq*2) c6)[j]? = some u)=>Jn rr6 (by omega) j u hu)
      have HBW:=hid (b0.trans (F6.out.below (B:=w.1.size) (fun q hq e=>by omega) (by omega)))
      clear rr6 at6 fr6 hmq n3 RZ
      go_wp2_with (at_builtin;go_must (refine wpList_append_own_at _ rfl _ _ 32 rfl w.1.size 109 i0 _ 2 24 Tryz.underlying32 hi0 hz0 hz1 hz2 rfl (by decide) _ p (Zg (p*2) c) rfl HO6.out ⟨wr.1.size,0,none⟩ mq cap (Zg (mq*2) c6) rfl (Zj _ _) NEWS.out ONE.out (by unfold maxLen;omega) (by omega) (by omega) ?_;intro v7 w7 hown7 hgrow7 hnil7 hat7;have HO7:=hid hown7;have HG7:=hid hgrow7;clear hown7 hgrow7 hnil7 hat7))
      have hne:Nonempty (GW w7):=⟨⟨_,br _ _⟩⟩
      refine Zf (by kernel_rfl) (by kernel_rfl) ?_
      repeat (refine wpQuiet_step (fun K hK=>?_);go_simp;(try rw [if_neg (show ¬((60:Int)<(pa:Int)) by omega)]);(try rw [if_pos (show (60:Int)<(pa:Int) by omega)]);(try rw [if_neg (show ¬((60:Int)<(pb:Int)) by omega)]);(try rw [if_pos (show (60:Int)<(pb:Int) by omega)]);(try go_simp);refine hK _ ?_;clear hK K)
      refine wpQuiet_nil ?_
      rintro w8 ⟨u,hu⟩
      have hw8:Below w7.1.size w7 w8:=hu▸u.prop
      clear hu u hne
      go_wp2
      exact KV (qa:=60) (qb:=60) hhi HPA.out HPB.out (by omega) (by omega) (by omega) (by omega) k1 k2 n2 hgo n4.out sx.out sy.out zr F6.out HBW.out hat.out AT6.out rfl HO6.out HO7.out HG7.out hw8
   ·have i1:¬(0:Int)<pa:=by omega
    have i6:(0:Int)<pb:=by omega
    have h2:pa≤60:=by omega
    exact FU
  ·have i1:¬(0:Int)<pa:=by omega
   have i6:¬(0:Int)<pb:=by omega
   have n5:min p mx=mx:=by have:=HPA.out;have:=HPB.out;have:=HMX.out;omega
   rw [n5] at ho hat
   have HO:=hid ho.out
   have HAT:=hid hat.out
   clear ho hat
   go_wp2
   exact FT
set_option maxRecDepth 100000 in
theorem Uy (nb:Nat) (y:Nat→Sl) (bb ob cb R:Nat) (c0:Nat→Value) (w:World) (lo hi:Nat) (hb:nb≤60) (hR:hi≤R) (hr:RowF w R 120 c0) (hy:SlsIn w lo hi (some ⟨bb,ob,none⟩) nb y) :
  Calls Tryz.prog 173 #[.slice (some ⟨R,0,none⟩) 60 60,.slice none 0 0,.slice (some ⟨bb,ob,none⟩) nb cb,.func (.func 174) #[] #[]] w fun e w'=>(∃ cap,e=.returned (.slice (some ⟨R,0,none⟩) nb cap))∧(∃ c,RowF w' R 120 c∧∀ i,i<nb→atSl c i (y i))∧FrP (fun q=>q=R) w w':=by
 have hzR:R<w.1.size:=hr.lt
 obtain ⟨i0,hi0,hz0,hz1,hz2⟩:=info_parts Tryz.info109
 have hrun:=run_copy_nil (P:=Tryz.prog) w 32 32 3 109 ⟨R,0,none⟩ 60 60 Tryz.underlying32 (by rw [hi0];rfl)
 have R1:=hid hr
 have HY:=hid hy
 clear hy hr
 go_enter Tryz.func173,Tryz.ntmps173
 go_wp2
 clear hrun
 go_loopw [16] (fun i wr=>∃ (k:Nat) (c:Nat→Value),k≤nb∧i=.int .i64 k∧FrP (fun q=>q=R) w wr∧RowF wr R 120 c∧Hid (∀ i,i<k→atSl c i (y i))) (fun i _=>nb-(intOf i).toNat)
 case atStart=>exact ⟨0,_,zle _,rfl,FrP.refl _ _,R1.out,hid (fun i hi=>absurd hi (by omega))⟩
 case round=>
  obtain ⟨k,c,hk,rfl,fr,rr,AT⟩:=hrel
  by_cases hkn:k<nb
  ·obtain ⟨b',off',e',hlo,hbh,hcy⟩:=HY.out k hkn
   cases e'
   have hzw:=fr.size
   have hbl:Below hi w wr:=fr.below (B:=hi) (fun q hq e=>by omega) (by omega)
   obtain ⟨e0,e1⟩:=hcy.below hbl hbh
   ·go_wp2
    have hbX:=Zb wr (.cells #[.int .i64 (y k).bal,.string (y k).text] 109)
    have g0:(wr.alloc (.cells #[.int .i64 (y k).bal,.string (y k).text] 109)).cell? ⟨wr.1.size,0,none⟩=some (.int .i64 (y k).bal):=Zt wr _ 109 0
    have g1:(wr.alloc (.cells #[.int .i64 (y k).bal,.string (y k).text] 109)).cell? ⟨wr.1.size,1,none⟩=some (.string (y k).text):=Zt wr _ 109 1
    have hzX:(wr.alloc (.cells #[.int .i64 (y k).bal,.string (y k).text] 109)).1.size=wr.1.size+1:=World.size_alloc _ _
    generalize wr.alloc (.cells #[.int .i64 (y k).bal,.string (y k).text] 109)=X at *
    have hne:Nonempty (GW X):=⟨⟨X,br _ _⟩⟩
    have s0:=Zc g0 (by show wr.1.size<_;omega)
    have s1:=Zc g1 (by show wr.1.size<_;omega)
    refine Zf (by kernel_rfl) (by kernel_rfl) ?_
    repeat (first|(go_big_quiet_step ((go_at_call 174;go_must (exact Zp (Jb (y k) (y k) _)))))|(refine wpQuiet_step (fun K hK=>?_);go_simp;refine hK _ ?_;clear hK K))
    refine wpQuiet_nil ?_
    rintro w5 ⟨u,hu⟩
    have hw5:Below X.1.size X w5:=hu▸u.prop
    have hr5:Below wr.1.size wr w5:=hbX.trans (hw5.mono (by omega))
    have RW:=hid (rr.below hr5 rr.lt)
    have FR:=hid (fr.trans (FrP.of_below hr5))
    have q0:=(hw5.cell (p:=⟨wr.1.size,0,none⟩) (by show wr.1.size<_;omega)).trans g0
    have q1:=(hw5.cell (p:=⟨wr.1.size,1,none⟩) (by show wr.1.size<_;omega)).trans g1
    have t0:=RW.out.cell (k*2) (by omega)
    have t1:=RW.out.cell (k*2+1) (by omega)
    have tf:=RW.out.free
    have AT2:Hid (∀ i,i<k+1→atSl (setF (setF c (k*2) (.int .i64 (y k).bal)) (k*2+1) (.string (y k).text)) i (y i)):=fun i hi9=>by
     by_cases e:i=k
     ·subst e
      exact ⟨(if_neg (by omega)).trans (if_pos rfl),if_pos rfl⟩
     ·exact Yy (Yy (AT.out i (by omega)) e (k:=k) (by omega) (by omega) _) e (k:=k) (by omega) (by omega) _
    clear hu u hne s0 s1 g0 g1 hbX hw5
    go_wp2
    go_roundw
    case rel=>exact ⟨k+1,_,by omega,by go_num,(FR.out.setCell (p:=⟨R,k*2,none⟩) rfl _).setCell (p:=⟨R,k*2+1,none⟩) rfl _,(RW.out.set (o:=k*2) (by omega) _).set (o:=k*2+1) (by omega) _,AT2.out⟩
    case measure=>simp [intOf];omega
  ·have hke:k=nb:=by omega
   subst hke
   have FRH:=hid fr
   have RRH:=hid rr
   clear fr rr
   by_cases h0:0<k
   ·have hmi:(0:Int)<k:=by omega
    go_wp2
    go_ret
    exact ⟨⟨60,by first|rfl|simp⟩,⟨c,RRH.out,AT.out⟩,FRH.out⟩
   ·obtain rfl:k=0:=by omega
    go_wp2
    go_ret
    exact ⟨⟨60,by first|rfl|simp⟩,⟨c,RRH.out,AT.out⟩,FRH.out⟩
set_option maxRecDepth 100000 in
theorem UA (nb:Nat) (y:Nat→Sl) (bb ob cb:Nat) (w:World) (lo hi:Nat) (hhi:hi≤w.1.size) (hlb:nb≤60) (hcb:nb≤cb) (hy:SlsIn w lo hi (some ⟨bb,ob,none⟩) nb y) :
  Calls Tryz.prog 163 #[.slice none 0 0,.slice (some ⟨bb,ob,none⟩) nb cb] w fun e w'=>∃ ad' cap' g,e=.returned (.slice ad' nb cap')∧SlsAt w' ad' g nb y∧w.1.size≤g∧(nb≠0→g<w'.1.size)∧Below w.1.size w w':=by
 obtain ⟨i0,hi0,hz0,hz1,hz2⟩:=info_parts Tryz.info109
 have HY:=hid hy
 clear hy
 go_enter Tryz.func163,Tryz.ntmps163
 go_wp2_with (at_make;refine wpList_make_own _ rfl _ _ 32 rfl w.1.size 109 i0 _ 2 Tryz.underlying32 hi0 hz0 hz1 .i64 .i64 _ nb rfl rfl (by first|omega|(split<;>omega)) (by rw [hz2];omega) (by unfold maxLen;omega) (lrf _) ?_;intro w1 hown1 hgrow1;have HO1:=hid hown1;have HG1:=hid hgrow1;(clear hown1 hgrow1);(generalize (if 0<nb then (nb:Int) else 0)=z13))
 have hB1:Below w.1.size w w1:=(br _ _).grown HG1.out (lrf _) (by simp)
 skip
 go_loopw [0,1,5] (fun a b v wr=>∃ (d gb kb:Nat) (v9:Value) (c:Nat→Value),v9=v∧a=.slice none 0 0∧b=.slice (some ⟨bb,gb,none⟩) (nb-d) kb∧nb-d≤kb∧((d=0∧gb=ob)∨d=nb)∧Below w.1.size w wr∧Hid (wr.ownsRow w.1.size 109 2 v9 d (Zg (d*2) c))∧Hid (∀ i,i<d→atSl c i (y i))) (fun a b _ _=>Nl a+Nl b)
 case atStart=>exact ⟨0,ob,cb,_,fun _=>undef,rfl,rfl,rfl,by omega,Or.inl ⟨rfl,rfl⟩,hB1,hid (by simpa [Zg] using HO1.out),fun i hi=>absurd hi (by omega)⟩
 case round=>
  obtain ⟨d,gb,kb,v9,c,rfl,rfl,rfl,k2,hor,b0,ho,hat⟩:=hrel
  have zr:=b0.size
  by_cases hgo:0<nb-d
  ·obtain ⟨rfl,rfl⟩:d=0∧gb=ob:=by rcases hor with h|h;exact h;omega
   clear hor
   rw [Nat.sub_zero] at k2 hgo ⊢
   have i6:(0:Int)<nb:=by omega
   go_wp2
   have hne:Nonempty (GW (wr.alloc (.cells Tryz.zeroCells168 168))):=⟨⟨_,br _ _⟩⟩
   refine Zf (by kernel_rfl) (by kernel_rfl) ?_
   repeat (refine wpQuiet_step (fun K hK=>?_);go_simp;(try rw [if_neg (show ¬((60:Int)<(nb:Int)) by omega)]);(try go_simp);refine hK _ ?_;clear hK K)
   refine wpQuiet_nil ?_
   rintro w5 ⟨u,hu⟩
   have hw5:Below (wr.alloc (.cells Tryz.zeroCells168 168)).1.size (wr.alloc (.cells Tryz.zeroCells168 168)) w5:=hu▸u.prop
   have hr5:Below wr.1.size wr w5:=(Zb _ _).trans (hw5.mono (by simp))
   have RZ:=hid ((Jj wr).below hw5 (by simp))
   have hz5:=hr5.size
   clear hu u hne hw5
   go_wp2_with fail
   skip
   refine (Uy nb y bb gb kb wr.1.size _ w5 lo hi (by omega) (by omega) RZ.out ((HY.out.below b0 hhi).below hr5 (by omega))).mono ?_
   rintro e w6 ⟨⟨cap,rfl⟩,⟨c6,rr6,at6⟩,fr6⟩
   have F6:=hid ((FrP.of_below (P:=fun q=>q=wr.1.size) hr5).trans fr6)
   have HO6:=hid (Yr ho.out F6.out (fun g hg e=>by have:=(ho.out.lt g hg).2;omega))
   have AT6:=hid at6
   have zf:=F6.out.size
   have ONE:=hid (fun u (hu:u ∈ Zg (nb*2) c6)=>Kz at6 u hu)
   have NEWS:=hid (fun j u (hu:(Zg (nb*2) c6)[j]? = some u)=>Jn rr6 (by omega) j u hu)
   have HBW:=hid (b0.trans (F6.out.below (B:=w.1.size) (fun q hq e=>by omega) (by omega)))
   clear rr6 at6 fr6 RZ
   go_wp2_with (at_builtin;go_must (refine wpList_append_own_at _ rfl _ _ 32 rfl w.1.size 109 i0 _ 2 24 Tryz.underlying32 hi0 hz0 hz1 hz2 rfl (by decide) _ 0 (Zg (0*2) c) rfl HO6.out ⟨wr.1.size,0,none⟩ nb cap (Zg (nb*2) c6) rfl (Zj _ _) NEWS.out ONE.out (by unfold maxLen;omega) (by omega) (by omega) ?_;intro v7 w7 hown7 hgrow7 hnil7 hat7;have HO7:=hid hown7;have HG7:=hid hgrow7;clear hown7 hgrow7 hnil7 hat7))
   have hne:Nonempty (GW w7):=⟨⟨_,br _ _⟩⟩
   refine Zf (by kernel_rfl) (by kernel_rfl) ?_
   repeat (refine wpQuiet_step (fun K hK=>?_);go_simp;(try rw [if_neg (show ¬((60:Int)<(nb:Int)) by omega)]);(try go_simp);refine hK _ ?_;clear hK K)
   refine wpQuiet_nil ?_
   rintro w8 ⟨u,hu⟩
   have hw8:Below w7.1.size w7 w8:=hu▸u.prop
   clear hu u hne
   have B67:Below w.1.size w6 w7:=(FrP.of_grown HG7.out).below (fun k hk e=>by have:=(HO6.out.lt k e).1;omega) HBW.out.size
   have HB68:=hid (B67.trans (hw8.mono (by have:=B67.size;have:=HBW.out.size;omega)))
   have HO8:=hid (Yr HO7.out (FrP.of_below (P:=fun _=>False) hw8) (fun _ _ h=>h))
   clear B67 hw8
   go_wp2
   skip
   refine ⟨⟨nb,if kb=nb then gb else gb+nb*2,kb-nb,v7,c6,rfl,rfl,?_,by omega,Or.inr rfl,HBW.out.trans HB68.out,hid (by simpa [Zg] using HO8.out),AT6⟩,?_⟩
   ·rw [Nat.sub_self];split<;>rfl
   ·simp [Nl];omega
  ·have hd:d=nb:=by rcases hor with h|h;omega;exact h
   subst hd
   have i6:¬(0:Int)<((d-d:Nat):Int):=by omega
   have HO:=hid ho.out
   have HAT:=hid hat.out
   clear ho hat
   go_wp2
   skip
   exact FT
theorem SlsAt.cong {w:World} {ad:Option Addr} {g n:Nat} {x y:Nat→Sl} (h:SlsAt w ad g n x) (e:∀ i,i<n→x i=y i):SlsAt w ad g n y:=
 ⟨h.addr,fun h0=>by obtain ⟨c,r,hat⟩:=h.row h0;exact ⟨c,r,fun i hi=>(e i hi)▸hat i hi⟩⟩
theorem Et (na nb:Nat) (x y:Nat→Sl) (ad:Option Addr) (g bb ob cb:Nat) (w:World) (hla:na≤60) (hlb:nb≤60) (hcb:nb≤cb) (hx:SlsAt w ad g na x) (hl:na≠0→g<w.1.size) (h0:na=0→ad=none) (hy:SlsIn w 0 w.1.size (some ⟨bb,ob,none⟩) nb y) :
  Calls Tryz.prog 163 #[.slice ad na na,.slice (some ⟨bb,ob,none⟩) nb cb] w fun e w'=>∃ ad' cap' g',e=.returned (.slice ad' (max na nb) cap')∧SlsAt w' ad' g' (max na nb) (mgS na x nb y)∧w.1.size≤g'∧(max na nb≠0→g'<w'.1.size)∧Below w.1.size w w':=by
 by_cases e:na=0
 ·subst e
  rw [h0 rfl,Nat.zero_max]
  refine (UA nb y bb ob cb w 0 w.1.size (lrf _) hlb hcb hy).mono ?_
  rintro e w' ⟨ad',cap',g',h1,h2,h3⟩
  exact ⟨ad',cap',g',h1,h2.cong (fun i _=>by simp [mgS]),h3⟩
 ·have ea:=hx.addr (by omega)
  have hs:=hx.isInG hl
  rw [ea] at hs ⊢
  exact UB na nb x y g 0 na bb ob cb w 0 w.1.size (lrf _) (by omega) (by omega) (lrf _) hcb hs hy
def Je (r:Rc) (x:Int) (mn:Nat) (ms:Nat→Sl):Rc:=if r.of<2*((Zy r.yn r.ys x:Nat):Int) then JF (ZU (XM r (Zy r.yn r.ys x) (ZJ r.yn r.ys x)) (max r.bn mn) (mgS r.bn r.bs mn ms)) else (ZU (XM r (Zy r.yn r.ys x) (ZJ r.yn r.ys x)) (max r.bn mn) (mgS r.bn r.bs mn ms))
def YY (r:Rc):Bool:=(!r.ld)&&((!r.tr)&&((r.bal==0)&&(((r.yn:Int)+(r.bn:Int)+(r.an:Int))==0)))
theorem Pz {P:Prop} (h:P:=by
  go_enter Tryz.func81,Tryz.ntmps81
  go_wp2_with (first|((with_reducible show wpList _ _ _ (⟨some 3,_,_,_,_,_⟩::_) _ _);clear mark;have hB0:=Zb w (.cells (rcC r A) 38);have H0:=Zt w (rcC r A) 38;have hz0:w.1.size<(w.alloc (.cells (rcC r A) 38)).1.size:=(by simp);generalize w.alloc (.cells (rcC r A) 38)=W at *;obtain ⟨p0,p1,p2,p3,p4,p5,p6,p7,p8,p9,ze,zc,za,zd,zi,zj,zg,zh⟩:=Ze H0))
  go_ret
  exact ⟨Zh HB.out.symm,hB0⟩):P:=h
set_option maxRecDepth 100000 in
theorem Yq (r:Rc) (A:RcA) (w:World) (y1:(r.yn:Int)≤17592186044416) (y2:(r.bn:Int)≤8796093022208) (y3:(r.an:Int)≤8796093022208):Calls Tryz.prog 81 #[rcV r A] w fun e w'=>e=.returned (.bool (YY r))∧Below w.1.size w w':=by
 have mark:Nat:=0
 obtain ⟨b0,h0⟩:∃ b,(!r.ld)=b:=⟨_,rfl⟩
 obtain ⟨b1,h1⟩:∃ b,(!r.tr)=b:=⟨_,rfl⟩
 obtain ⟨b2,h2⟩:∃ b,(r.bal==0)=b:=⟨_,rfl⟩
 obtain ⟨b3,h3⟩:∃ b,(((r.yn:Int)+(r.bn:Int)+(r.an:Int))==0)=b:=⟨_,rfl⟩
 have HB:=hid (show YY r=(b0&&(b1&&(b2&&b3))) by rw [←h0,←h1,←h2,←h3];rfl)
 cases b0
 ·exact Pz
 cases b1
 ·exact Pz
 cases b2
 ·exact Pz
 go_enter Tryz.func81,Tryz.ntmps81
 go_wp2_with (first|((with_reducible show wpList _ _ _ (⟨some 3,_,_,_,_,_⟩::_) _ _);clear mark;have hB0:=Zb w (.cells (rcC r A) 38);have H0:=Zt w (rcC r A) 38;have hz0:w.1.size<(w.alloc (.cells (rcC r A) 38)).1.size:=(by simp);generalize w.alloc (.cells (rcC r A) 38)=W at *;obtain ⟨p0,p1,p2,p3,p4,p5,p6,p7,p8,p9,ze,zc,za,zd,zi,zj,zg,zh⟩:=Ze H0))
 go_ret
 exact ⟨Zh (by rw [HB.out,←h3];simp),hB0⟩
theorem ZF {P:Program} {ops:Array Oper} {rest:List Oper} {op:Oper} {a:Act} {w:World} {Q:Exit→Act→World→Prop} (hw:Region.wanted op (yielded ops a.tmps)=true) (ty:TypeId) (x:Operand) (ho:op.op=.load ty x)
  (b o:Nat) (hx:a.eval x=.pointer (some ⟨b,o,none⟩)) (cs:List Value) (d:TypeDesc) (hc:w.rangeAt b o cs)
  (hu:P.underlying ty=some d) (hd:d.isRow=true) (hi:(P.info? ty).map (·.size)=some cs.length)
  (h:wpList P ops Q rest (a.put op.dst (.agg cs.toArray)) w):wpList P ops Q (op::rest) a w:=
 wpList_step (fun K hK=>by rw [if_pos hw];exact wp_load_mid ty x ho b o hx cs d hc hu hd hi (hK _ _ h))
theorem Ot (r0:Rc) (u:Bool):Xj (setR r0 false false u)=YY (setR r0 false false u):=by
 show Xw (setR r0 false false u)=YY (setR r0 false false u)
 rw [Bool.eq_iff_iff]
 simp [Xw,YY]
 omega
end Go.Proofs.YtokkbdlofbdljaaGreat
