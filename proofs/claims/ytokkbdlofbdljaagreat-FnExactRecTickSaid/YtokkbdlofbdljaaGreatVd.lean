import Derived.Test.YtokkbdlofbdljaaGreatUm
import Derived.Laws.CopyRow
import Derived.Lib.Overlaps
namespace Go.Proofs.YtokkbdlofbdljaaGreat
open Go.RowKit
set_option maxHeartbeats 8000000
def brR (bal:Int) (ws:Nat→ByteArray):Nat→Rc→Rc
 | 0,r=>r
 | j+1,r=>if (brR bal ws j r).dk.n<60∧hasB (brR bal ws j r).dk.n (fun i=>((brR bal ws j r).dk.s i).text) (ws j)=false then JC (brR bal ws j r) ⟨bal,ws j⟩ else brR bal ws j r
theorem IK (bal:Int) (ws:Nat→ByteArray) (r:Rc) (h:r.dk.n≤60):∀ j,(brR bal ws j r).dk.n≤60
 | 0=>h
 | j+1=>by
  have:=IK bal ws r h j
  rw [brR]
  split
  ·rename_i h1
   show (brR bal ws j r).dk.n+1≤60
   omega
  ·exact this
theorem NI (bal:Int) (ws:Nat→ByteArray) (r:Rc):∀ j,(brR bal ws j r).bal=r.bal∧(brR bal ws j r).num=r.num∧(brR bal ws j r).wn=r.wn∧(brR bal ws j r).ws=r.ws
 | 0=>⟨rfl,rfl,rfl,rfl⟩
 | j+1=>by
  have:=NI bal ws r j
  rw [brR]
  split
  ·exact this
  ·exact this
set_option maxRecDepth 100000 in
theorem NG (T B:Nat) (r:Rc) (p:RcP) (s:Rc) (ps:RcP) (w:World) (h:TkAt w T B r p s ps) (hdn:r.dk.n≤60) (hwn:r.wn≤1000) :
  Calls Tryz.prog 144 #[.pointer (some ⟨T,0,none⟩)] w fun e w'=>e=.returned (.tuple #[])∧∃ p',TkAt w' T B (brR r.bal r.ws r.wn r) p' s ps∧FrP (fun q=>q=B∨rbs p r q) w w'∧(∀ q,rbs p' (brR r.bal r.ws r.wn r) q→rbs p r q∨w.1.size≤q):=by
 have H:=hid h
 have q0:w.cell? ⟨T,0,none⟩=some (.pointer (some ⟨B,0,none⟩)):=h.tx.cell 0
 have q10:w.cell? ⟨B,10,none⟩=some (.slice p.A.wa r.wn p.A.wc):=h.bx.cell 10
 clear h
 go_enter Tryz.func144,Tryz.ntmps144
 go_wp2
 clear q0 q10
 go_loopw [19] (fun i wr=>∃ (j:Nat) (p':RcP),i=.int .i64 (j:Int)∧j≤r.wn∧Hid (TkAt wr T B (brR r.bal r.ws j r) p' s ps)∧Hid (FrP (fun q=>q=B∨rbs p r q) w wr)∧Hid (∀ q,rbs p' (brR r.bal r.ws j r) q→rbs p r q∨w.1.size≤q)∧Hid (p'.A.wa=p.A.wa)) (fun i _=>r.wn-(intOf i).toNat)
 case atStart=>exact ⟨0,p,rfl,zle _,H,hid (FrP.refl _ _),hid (fun q hq=>Or.inl hq),hid rfl⟩
 case round=>
  obtain ⟨j,p',rfl,hj,TK,FR,NB,WA⟩:=hrel
  obtain ⟨kb,kn,kw,ks⟩:=NI r.bal r.ws r j
  by_cases hjn:j<r.wn
  ·have hj2:j<(brR r.bal r.ws j r).wn:=by rw [kw];exact hjn
   obtain ⟨b,off,e1,e2,e3,e4,_⟩:=TK.out.g.at_.o3 j hj2
   rw [ks] at e4
   rw [WA.out] at e1
   have hle:=IK r.bal r.ws r hdn j
   have q8:wr.cell? ⟨B,8,none⟩=some (.slice p'.A.da (brR r.bal r.ws j r).dk.n p'.A.dc):=TK.out.bx.cell 8
   obtain ⟨R,hR⟩:∃ R,brR r.bal r.ws j r=R:=⟨_,rfl⟩
   have HR:=hid hR
   rw [hR] at TK NB kb kw hle q8
   clear hR hj2 e2 e3 kn ks
   have KB:=hid kb
   have KW:=hid kw
   have HJN:=hid hjn
   clear kb kw
   have WA2:=hid (WA.out.trans e1)
   rw [e1]
   clear e1 WA
   have HT:=hid (fun (X:World) (hb:Below wr.1.size wr X)=>KK R.dk.n R.dk.s p'.A.da p'.A.dc (r.ws j) X 0 X.1.size (lrf _) (by omega) ((TK.out.g.grow hb).at_.o1.isIn (fun h0=>⟨zle _,(TK.out.g.grow hb).at_.lt _ ⟨1,by omega,h0,rfl⟩⟩)))
   have ST:Hid (R.dk.n<60→hasB R.dk.n (fun i=>(R.dk.s i).text) (r.ws j)=false→brR r.bal r.ws (j+1) r=JC R ⟨r.bal,r.ws j⟩):=hid (fun h1 h2=>by rw [brR,HR.out,if_pos ⟨h1,h2⟩])
   have SN:Hid (¬(R.dk.n<60∧hasB R.dk.n (fun i=>(R.dk.s i).text) (r.ws j)=false)→brR r.bal r.ws (j+1) r=R):=hid (fun h1=>by rw [brR,HR.out,if_neg h1])
   by_cases h60:R.dk.n<60
   ·have H60:=hid h60
    go_wp2_with (go_at_call 129;go_must (refine (HT.out _ (br _ _)).mono ?_;rintro e w2 ⟨rfl,hb2⟩;have HB2:=hid hb2;clear hb2;cases hh:hasB R.dk.n (fun i=>(R.dk.s i).text) (r.ws j)<;>(have HH:=hid hh;clear hh)))
    ·have K2:=TK.out.grow HB2.out
     have hz2:=HB2.out.size
     refine bwReg5 _ _ _ _ _ _ _ _ _ _ _ _ _ _ _ _ _ _ _ _ _ _ _ _ _ _ _ _ _ _ _ _ _ _ _ _ _ _ _ _ _ _ _ _ _ _ _ _ _ _ _ _ _ _ T B R p' ⟨r.bal,r.ws j⟩ w2 K2.bx K2.tx.lt (K2.tx.cell 0) KB.out.symm K2.g (by omega) (fun k hk=>⟨(K2.ap k hk).2.1,(K2.ap k hk).1⟩) _ ?_
     intro t ad' cap' g' Y kG kB kF
     have g1in:R.dk.n≠0→rbs p' R p'.g1:=fun h0=>⟨1,by omega,h0,rfl⟩
     have F8:=(FrP.refl (fun q=>q=B) Y).setCell (p:=⟨B,8,none⟩) rfl (.slice ad' (R.dk.n+1) cap')
     have nT:¬(R.dk.n≠0∧T=p'.g1):=fun e=>(K2.ap _ (g1in e.1)).1 e.2.symm
     have nB:¬(R.dk.n≠0∧B=p'.g1):=fun e=>(K2.ap _ (g1in e.1)).2.1 e.2.symm
     have BY:=K2.bx.frP kF nB
     have lT:=K2.tx.lt
     have lB:=K2.bx.lt
     have TK3:Hid (TkAt (Y.setCell ⟨B,8,none⟩ (.slice ad' (R.dk.n+1) cap')) T B (JC R ⟨r.bal,r.ws j⟩) (Xu p' ad' cap' g') s ps):=hid ⟨(K2.tx.frP kF nT).frP F8 K2.ne,BY.to (BY.cell.set (i:=8) (by simp) _),kG.fr F8 (fun k hk e=>by
       rcases kB k hk with h|h
       ·exact (K2.ap k h).2.1 e
       ·omega),(K2.sg.fr kF (fun k hk e=>(K2.ap _ (g1in e.1)).2.2 (e.2▸hk))).fr F8 (fun k hk e=>(K2.sp k hk).2 e),fun k hk=>by
       rcases kB k hk with h|h
       ·exact K2.ap k h
       ·exact ⟨by omega,by omega,fun hs=>by have:=K2.sg.at_.lt k hs;omega⟩,K2.sp,K2.ne,K2.nm⟩
     have FR3:Hid (FrP (fun q=>q=B∨rbs p r q) w (Y.setCell ⟨B,8,none⟩ (.slice ad' (R.dk.n+1) cap'))):=hid (((FR.out.trans (FrP.of_below HB2.out)).trans2 kF (fun q hq e=>by
       rcases NB.out q (e.2▸g1in e.1) with h|h
       ·exact Or.inr h
       ·omega)).trans (F8.mono (fun q hq=>Or.inl hq)))
     have NB3:Hid (∀ q,rbs (Xu p' ad' cap' g') (JC R ⟨r.bal,r.ws j⟩) q→rbs p r q∨w.1.size≤q):=hid (fun q hq=>by
       rcases kB q hq with h|h
       ·exact NB.out q h
       ·exact Or.inr (by have:=FR.out.size;omega))
     have EQ:=hid (ST.out H60.out HH.out)
     clear kG kB kF F8 nT nB BY g1in K2
     go_wp2
     go_roundw
     case rel=>exact ⟨j+1,Xu p' ad' cap' g',by go_num,HJN.out,by rw [EQ.out];exact TK3,FR3,by rw [EQ.out];exact NB3,WA2⟩
     case measure=>have:=HJN.out;simp [intOf];omega
    ·have EQ:=hid (SN.out (fun h=>by rw [HH.out] at h;cases h.2))
     have TK3:=hid (TK.out.grow HB2.out)
     have FR3:=hid (FR.out.trans (FrP.of_below HB2.out))
     go_wp2
     go_roundw
     case rel=>exact ⟨j+1,p',by go_num,HJN.out,by rw [EQ.out];exact TK3,FR3,by rw [EQ.out];exact NB,WA2⟩
     case measure=>have:=HJN.out;simp [intOf];omega
   ·have EQ:=hid (SN.out (fun h=>h60 h.1))
    go_wp2
    go_roundw
    case rel=>exact ⟨j+1,p',by go_num,HJN.out,by rw [EQ.out];exact TK,FR,by rw [EQ.out];exact NB,WA2⟩
    case measure=>have:=HJN.out;simp [intOf];omega
  ·have hje:j=r.wn:=by omega
   subst hje
   go_wp2
   exact bodyPost_end (results_none rfl _ _ _) rfl ⟨rfl,p',TK.out,FR.out,NB.out⟩
theorem Ng (num:Int) (m:Ms) (s:Rc) (h:s.num=num):∀ k,YE num m k (s.hn,s.hs)=((XB num m k s).hn,(XB num m k s).hs)
 | 0=>rfl
 | k+1=>by
  have ih:=Ng num m s h k
  have hn:(XB num m k s).num=num:=(Uo num m s k).trans h
  rw [YE,XB]
  split
  ·exact ih
  ·rw [ih]
   show ((XB num m k s).hn+1,updF (XB num m k s).hs (XB num m k s).hn (toM num m k))=((XB num m k s).hn+1,updF (XB num m k s).hs (XB num m k s).hn (msF (XB num m k s) (toM num m k)))
   unfold msF
   rw [hn]
   rfl
set_option maxRecDepth 100000 in
theorem Nx (na:Nat) (x:Nat→Sl) (ba oa ca R:Nat) (c0:Nat→Value) (w:World) (lo hi:Nat) (ha:na≤60) (hna:0<na) (hr:RowF w R 120 c0) (hx:SlsIn w lo hi (some ⟨ba,oa,none⟩) na x) :
  Calls Tryz.prog 173 #[.slice (some ⟨R,0,none⟩) 60 60,.slice (some ⟨ba,oa,none⟩) na ca,.slice none 0 0,.func (.func 174) #[] #[]] w fun e w'=>(∃ cap,e=.returned (.slice (some ⟨R,0,none⟩) na cap))∧(∃ c,RowF w' R 120 c∧∀ i,i<na→atSl c i (x i))∧FrP (fun q=>q=R) w w':=by
 have hzR:R<w.1.size:=hr.lt
 obtain ⟨i0,hi0,hz0,hz1,hz2⟩:=info_parts Tryz.info109
 have hsz:(Tryz.prog.info? 109).map (·.size)=some 2:=by rw [hi0];simp [hz1]
 have hmin:Nat.min na 60=na:=Nat.min_eq_left ha
 have hrun:=Yd (P:=Tryz.prog) w 32 32 3 109 R 0 60 60 ⟨ba,oa,none⟩ na ca 2 (Zg (na*2) (YW 2 (slR x))) Tryz.underlying32 hsz (by rw [Zj,hmin]) (by
  intro j u hj
  obtain ⟨h1,rfl⟩:=ZP hj
  obtain ⟨b',off',e',_,e3,e4⟩:=hx.src.at_ j h1
  cases e'
  rw [show ((⟨ba,oa,none⟩:Addr).add j)=⟨ba,oa+j,none⟩ by unfold Addr.add;split<;>simp_all]
  exact e4) (by intro j hj;rw [Zj] at hj;rw [Nat.zero_add,hr.cell j (by omega)];rfl) (by intro j _;exact hr.free _) (by intro v hv;obtain ⟨i,hi,rfl⟩:=List.mem_map.1 hv;exact hx.src.one i (by simpa using hi))
 have R1:=hid (hr.fill (YW 2 (slR x)) (l:=na*2) (by omega))
 have F1:=hid (FrP.of_fr (P:=fun q=>q=R) (Zx R (Zg (na*2) (YW 2 (slR x))) 0 w) (fun k h1 h2=>by omega))
 have AT1:Hid (∀ i,i<na→atSl (fun j=>if j<na*2 then YW 2 (slR x) j else c0 j) i (x i)):=fun i hi=>by
  obtain ⟨q0,q1⟩:=Ud x i
  exact ⟨(if_pos (by omega)).trans q0,(if_pos (by omega)).trans q1⟩
 clear hx hr hmin
 go_enter Tryz.func173,Tryz.ntmps173
 go_wp2
 clear hrun
 go_loopw [16] (fun i wr=>i=.int .i64 0∧Hid (∃ c,RowF wr R 120 c∧∀ i,i<na→atSl c i (x i))∧Hid (FrP (fun q=>q=R) w wr)) (fun _ _=>0)
 case atStart=>exact ⟨rfl,hid ⟨_,R1.out,AT1.out⟩,F1⟩
 case round=>
  obtain ⟨rfl,RR,FR⟩:=hrel
  have hmi:(0:Int)<na:=by omega
  go_wp2
  go_ret
  exact ⟨⟨60,by first|rfl|simp⟩,RR.out,FR.out⟩
set_option maxRecDepth 100000 in
theorem Nz (nb:Nat) (y:Nat→Sl) (bb ob cb:Nat) (w:World) (lo hi:Nat) (hhi:hi≤w.1.size) (hlb:nb≤60) (hcb:nb≤cb) (hy:SlsIn w lo hi (some ⟨bb,ob,none⟩) nb y) :
  Calls Tryz.prog 163 #[.slice (some ⟨bb,ob,none⟩) nb cb,.slice none 0 0] w fun e w'=>∃ ad' cap' g,e=.returned (.slice ad' nb cap')∧SlsAt w' ad' g nb y∧w.1.size≤g∧(nb≠0→g<w'.1.size)∧Below w.1.size w w':=by
 obtain ⟨i0,hi0,hz0,hz1,hz2⟩:=info_parts Tryz.info109
 have HY:=hid hy
 clear hy
 go_enter Tryz.func163,Tryz.ntmps163
 go_wp2_with (at_make;refine wpList_make_own _ rfl _ _ 32 rfl w.1.size 109 i0 _ 2 Tryz.underlying32 hi0 hz0 hz1 .i64 .i64 _ nb rfl rfl (by first|omega|(split<;>omega)) (by rw [hz2];omega) (by unfold maxLen;omega) (lrf _) ?_;intro w1 hown1 hgrow1;have HO1:=hid hown1;have HG1:=hid hgrow1;(clear hown1 hgrow1);skip)
 have hB1:Below w.1.size w w1:=(br _ _).grown HG1.out (lrf _) (by simp)
 skip
 go_loopw [0,1,5] (fun a b v wr=>∃ (d gb kb:Nat) (v9:Value) (c:Nat→Value),v9=v∧b=.slice none 0 0∧a=.slice (some ⟨bb,gb,none⟩) (nb-d) kb∧nb-d≤kb∧((d=0∧gb=ob)∨d=nb)∧Below w.1.size w wr∧Hid (wr.ownsRow w.1.size 109 2 v9 d (Zg (d*2) c))∧Hid (∀ i,i<d→atSl c i (y i))) (fun a b _ _=>Nl a+Nl b)
 case atStart=>exact ⟨0,ob,cb,_,fun _=>undef,rfl,rfl,rfl,by omega,Or.inl ⟨rfl,rfl⟩,hB1,hid (by simpa [Zg] using HO1.out),fun i hi=>absurd hi (by omega)⟩
 case round=>
  obtain ⟨d,gb,kb,v9,c,rfl,rfl,rfl,k2,hor,b0,ho,hat⟩:=hrel
  have zr:=b0.size
  by_cases hgo:0<nb-d
  ·obtain ⟨rfl,rfl⟩:d=0∧gb=ob:=by rcases hor with h|h;exact h;omega
   clear hor
   rw [Nat.sub_zero] at k2 hgo ⊢
   have i6:(0:Int)<nb:=by omega
   go_wp2
   have hne:Nonempty (GW (wr.alloc (.cells Tryz.zeroCells168 168))):=⟨⟨_,br _ _⟩⟩
   refine Zf (by kernel_rfl) (by kernel_rfl) ?_
   repeat (refine wpQuiet_step (fun K hK=>?_);go_simp;(try rw [if_neg (show ¬((60:Int)<(nb:Int)) by omega)]);(try go_simp);refine hK _ ?_;clear hK K)
   refine wpQuiet_nil ?_
   rintro w5 ⟨u,hu⟩
   have hw5:Below (wr.alloc (.cells Tryz.zeroCells168 168)).1.size (wr.alloc (.cells Tryz.zeroCells168 168)) w5:=hu▸u.prop
   have hr5:Below wr.1.size wr w5:=(Zb _ _).trans (hw5.mono (by simp))
   have RZ:=hid ((Jj wr).below hw5 (by simp))
   have hz5:=hr5.size
   clear hu u hne hw5
   go_wp2_with fail
   skip
   refine (Nx nb y bb gb kb wr.1.size _ w5 lo hi (by omega) hgo RZ.out ((HY.out.below b0 hhi).below hr5 (by omega))).mono ?_
   rintro e w6 ⟨⟨cap,rfl⟩,⟨c6,rr6,at6⟩,fr6⟩
   have F6:=hid ((FrP.of_below (P:=fun q=>q=wr.1.size) hr5).trans fr6)
   have HO6:=hid (Yr ho.out F6.out (fun g hg e=>by have:=(ho.out.lt g hg).2;omega))
   have AT6:=hid at6
   have zf:=F6.out.size
   have ONE:=hid (fun u (hu:u ∈ Zg (nb*2) c6)=>Kz at6 u hu)
   have NEWS:=hid (fun j u (hu:(Zg (nb*2) c6)[j]? = some u)=>Jn rr6 (by omega) j u hu)
   have HBW:=hid (b0.trans (F6.out.below (B:=w.1.size) (fun q hq e=>by omega) (by omega)))
   clear rr6 at6 fr6 RZ
   go_wp2_with (at_builtin;go_must (refine wpList_append_own_at _ rfl _ _ 32 rfl w.1.size 109 i0 _ 2 24 Tryz.underlying32 hi0 hz0 hz1 hz2 rfl (by decide) _ 0 (Zg (0*2) c) rfl HO6.out ⟨wr.1.size,0,none⟩ nb cap (Zg (nb*2) c6) rfl (Zj _ _) NEWS.out ONE.out (by unfold maxLen;omega) (by omega) (by omega) ?_;intro v7 w7 hown7 hgrow7 hnil7 hat7;have HO7:=hid hown7;have HG7:=hid hgrow7;clear hown7 hgrow7 hnil7 hat7))
   have hne:Nonempty (GW w7):=⟨⟨_,br _ _⟩⟩
   refine Zf (by kernel_rfl) (by kernel_rfl) ?_
   repeat (refine wpQuiet_step (fun K hK=>?_);go_simp;(try rw [if_neg (show ¬((60:Int)<(nb:Int)) by omega)]);(try go_simp);refine hK _ ?_;clear hK K)
   refine wpQuiet_nil ?_
   rintro w8 ⟨u,hu⟩
   have hw8:Below w7.1.size w7 w8:=hu▸u.prop
   clear hu u hne
   have B67:Below w.1.size w6 w7:=(FrP.of_grown HG7.out).below (fun k hk e=>by have:=(HO6.out.lt k e).1;omega) HBW.out.size
   have HB68:=hid (B67.trans (hw8.mono (by have:=B67.size;have:=HBW.out.size;omega)))
   have HO8:=hid (Yr HO7.out (FrP.of_below (P:=fun _=>False) hw8) (fun _ _ h=>h))
   clear B67 hw8
   go_wp2
   skip
   refine ⟨⟨nb,if kb=nb then gb else gb+nb*2,kb-nb,v7,c6,rfl,rfl,?_,by omega,Or.inr rfl,HBW.out.trans HB68.out,hid (by simpa [Zg] using HO8.out),AT6⟩,?_⟩
   ·rw [Nat.sub_self];split<;>rfl
   ·simp [Nl];omega
  ·have hd:d=nb:=by rcases hor with h|h;omega;exact h
   subst hd
   have i6:¬(0:Int)<((d-d:Nat):Int):=by omega
   have HO:=hid ho.out
   have HAT:=hid hat.out
   clear ho hat
   go_wp2
   skip
   refine bodyPost_ret (v:=v9) (by simp [results,Tryz.results163,go_sem]) rfl ?_
   obtain ⟨ad',cap',g,e1,e2,e3,e4,e5⟩:=Nq HO.out HAT.out b0
   exact ⟨ad',⟨cap',e1⟩,g,e2,e3,e4,e5⟩
set_option maxRecDepth 100000 in
theorem Pm (w:World):Calls Tryz.prog 163 #[.slice none 0 0,.slice none 0 0] w fun e w'=>∃ ad' cap' g,e=.returned (.slice ad' 0 cap')∧w.1.size≤g∧Below w.1.size w w':=by
 obtain ⟨i0,hi0,hz0,hz1,hz2⟩:=info_parts Tryz.info109
 go_enter Tryz.func163,Tryz.ntmps163
 go_wp2_with (at_make;refine wpList_make_own _ rfl _ _ 32 rfl w.1.size 109 i0 _ 2 Tryz.underlying32 hi0 hz0 hz1 .i64 .i64 _ 0 rfl rfl (by first|omega|simp) (by rw [hz2];omega) (by unfold maxLen;omega) (lrf _) ?_;intro w1 hown1 hgrow1;have HO1:=hid hown1;have HG1:=hid hgrow1;(clear hown1 hgrow1))
 have hB1:Below w.1.size w w1:=(br _ _).grown HG1.out (lrf _) (by simp)
 go_loopw [0,1,5] (fun a b v wr=>∃ (v9:Value),v9=v∧a=.slice none 0 0∧b=.slice none 0 0∧Below w.1.size w wr∧Hid (wr.ownsRow w.1.size 109 2 v9 0 [])) (fun _ _ _ _=>0)
 case atStart=>exact ⟨_,rfl,rfl,rfl,hB1,hid (by simpa using HO1.out)⟩
 case round=>
  obtain ⟨v9,rfl,rfl,rfl,b0,ho⟩:=hrel
  go_wp2
  refine bodyPost_ret (v:=v9) (by simp [results,Tryz.results163,go_sem]) rfl ?_
  have hs:=Nq (x:=fun _=>⟨0,⟨#[]⟩⟩) (n:=0) (c:=fun _=>undef) (by simpa [Zg] using ho.out) (fun i hi=>absurd hi (nlz _)) b0
  obtain ⟨ad',cap',g,e1,_,e3,_,e5⟩:=hs
  first|exact ⟨ad',cap',g,e1,e3,e5⟩|exact ⟨⟨ad',cap',e1⟩,⟨g,e3⟩,e5⟩|exact ⟨ad',⟨cap',e1⟩,g,e3,e5⟩
def DoQ (F:RcP→Prop) (B:Nat) (r:Rc) (p:RcP) (r':Rc) (w:World) (e:Ending) (w':World):Prop:=
 e=.returned (.tuple #[])∧∃ p',Bx w' B (rcC r' p'.A)∧RcG w' r' p'∧FrP (fun q=>q=B∨rbs p r q) w w'∧(∀ q,rbs p' r' q→rbs p r q∨w.1.size≤q)∧F p'
theorem DoQ.mono {F G:RcP→Prop} {B:Nat} {r:Rc} {p:RcP} {r':Rc} {w w':World} {e:Ending} (h:DoQ F B r p r' w e w') (hg:∀ q,F q→G q):DoQ G B r p r' w e w':=by
 obtain ⟨he,p2,x2,g2,f2,s2,a2⟩:=h
 exact ⟨he,p2,x2,g2,f2,s2,hg _ a2⟩
theorem DoQ.then {F:RcP→Prop} {B:Nat} {r:Rc} {p:RcP} {r1:Rc} {p1:RcP} {w w1:World} (hf:FrP (fun q=>q=B∨rbs p r q) w w1) (hr:∀ q,rbs p1 r1 q→rbs p r q∨w.1.size≤q) {r2:Rc} {e:Ending} {w2:World} (h:DoQ F B r1 p1 r2 w1 e w2):DoQ F B r p r2 w e w2:=by
 obtain ⟨he,p2,x2,g2,f2,s2,a2⟩:=h
 refine ⟨he,p2,x2,g2,hf.trans2 f2 (fun q hq e=>?_),fun q hq=>?_,a2⟩
 ·rcases e with e|e
  ·exact Or.inl e
  ·rcases hr q e with h|h
   ·exact Or.inr h
   ·omega
 ·rcases s2 q hq with h|h
  ·exact hr q h
  ·exact Or.inr (ltr hf.size h)
set_option maxRecDepth 100000 in
theorem put_doA (r:Rc) (p:RcP) (B k:Nat) (x:Sl) (w:World) (hbx:Bx w B (rcC r p.A)) (hg:RcG w r p) (hB:∀ i,rbs p r i→i≠B) (hk:k<1000) :
  Calls Tryz.prog 154 #[.pointer (some ⟨B,6,none⟩),.int .i64 ((k:Int)+1),slV x] w fun e w'=>e=.returned (.tuple #[])∧∃ p',Bx w' B (rcC (JA r k x) p'.A)∧RcG w' (JA r k x) p'∧FrP (fun q=>q=B∨(r.dk.n≠0∧q=p.g1)) w w'∧(∀ j,rbs p' (JA r k x) j→rbs p r j∨w.1.size≤j)∧p'.A.aa=p.A.aa∧p'.A.ac=p.A.ac:=by
 have HG:=hid hg
 have HLT:=hid hg.at_.lt
 have HB:=hid hB
 have HBX:=hid hbx
 have lB:=hbx.lt
 clear hg hB hbx
 go_enter Tryz.func154,Tryz.ntmps154
 go_wp2
 have bX:=Bx.new w (slL x).toArray 109
 have hB0:Below w.1.size w (w.alloc (.cells (slL x).toArray 109)):=Zb _ _
 have hzW:w.1.size<(w.alloc (.cells (slL x).toArray 109)).1.size:=by simp
 generalize (w.alloc (.cells (slL x).toArray 109))=W at *
 have I0:Hid (∃ (j:Nat) (p1:RcP),j≤k+1-r.dk.n∧Bx W B (rcC (XZ r j) p1.A)∧Bx W w.1.size (slL x).toArray∧RcG W (XZ r j) p1∧FrP (fun q=>(q=B∨(r.dk.n≠0∧q=p.g1))∨w.1.size≤q) W W∧(r.dk.n+j≠0→(r.dk.n≠0∧p1.g1=p.g1)∨w.1.size<p1.g1)∧(∀ i,rbs p1 (XZ r j) i→rbs p r i∨w.1.size<i)∧Hid (p1.A.aa=p.A.aa∧p1.A.ac=p.A.ac)):=⟨0,p,zle _,HBX.out.below hB0 lB,bX,(HG.out.grow hB0).pad0,FrP.refl _ _,fun h0=>Or.inl ⟨h0,rfl⟩,fun i hi=>Or.inl hi,hid ⟨rfl,rfl⟩⟩
 clear bX
 go_loopw [] (fun wr=>∃ (j:Nat) (p1:RcP),j≤k+1-r.dk.n∧Bx wr B (rcC (XZ r j) p1.A)∧Bx wr w.1.size (slL x).toArray∧RcG wr (XZ r j) p1∧FrP (fun q=>(q=B∨(r.dk.n≠0∧q=p.g1))∨w.1.size≤q) W wr∧(r.dk.n+j≠0→(r.dk.n≠0∧p1.g1=p.g1)∨w.1.size<p1.g1)∧(∀ i,rbs p1 (XZ r j) i→rbs p r i∨w.1.size<i)∧Hid (p1.A.aa=p.A.aa∧p1.A.ac=p.A.ac)) (fun wr=>k+1-JE wr B 8)
 case atStart=>exact I0.out
 case round=>
  obtain ⟨j,p1,hj,bR,bX,hG1,hF,hg1,hblk,HAA⟩:=hrel
  clear I0
  obtain ⟨q0,q1,q2,q3,q4,q5,q6,q7,q8,q9,q10,q11,q12,q13,q14,q15,q16,q17⟩:=Ze bR.cell
  clear q0 q1 q2 q3 q4 q5 q6 q7 q9 q10 q11 q12 q13 q14 q15 q16 q17
  have qf:=bR.free
  have qlt:=bR.lt
  have BR:=hid bR
  have BX:=hid bX
  have G1:=hid hG1
  have FF:=hid hF
  have HG1:=hid hg1
  have HBK:=hid hblk
  have zr:W.1.size≤wr.1.size:=hF.size
  have ng:Hid (∀ b,b=B∨b=w.1.size→¬(r.dk.n+j≠0∧b=p1.g1)):=fun b h1 e=>by
   have hr:rbs p1 (XZ r j) p1.g1:=⟨1,by omega,e.1,rfl⟩
   rcases hblk _ hr with h|h
   ·have h3:=HLT.out _ h
    rcases h1 with h1|h1
    ·exact HB.out _ h (by omega)
    ·omega
   ·omega
  clear bR bX hG1 hF hg1 hblk
  by_cases hlt:r.dk.n+j<k+1
  ·go_wp2_with (first|((with_reducible show wpList _ _ _ (⟨some 20,_,_,_,_,_⟩::_) _ _);go_must (obtain ⟨ad',cap',g',w4,hrun,hG4,hF4,hK4,hg4⟩:=KF (wr.alloc (.cells (slL slE).toArray 109)) (XZ r j) p1 slE wr.1.size (slD slE) (G1.out.grow (Zb _ _)) (by show ((r.dk.n+j:Nat):Int)≤1048576;omega) (Pg wr slE) (In _);refine Zq rfl _ _ 32 32 rfl _ _ _ _ rfl rfl hrun ?_;have fx:FrP (fun q=>r.dk.n+j≠0∧q=p1.g1) wr w4:=(FrP.of_below (Zb _ _)).trans hF4;have R4:=hid (BR.out.frP fx (ng.out _ (Or.inl rfl)));have X4:=hid (BX.out.frP fx (ng.out _ (Or.inr rfl)));have G4:=hid hG4;have K4:=hid hK4;have HH4:=hid hg4;have FX:=hid fx;have z4:=fx.size;clear hrun hG4 hF4 hK4 hg4 fx q8 qf;obtain ⟨q0,q1,q2,q3,q4,q5,q6,q7,q8,q9,q10,q11,q12,q13,q14,q15,q16,q17⟩:=Ze R4.out.cell;clear q0 q1 q2 q3 q4 q5 q6 q7 q9 q10 q11 q12 q13 q14 q15 q16 q17;have qf:=R4.out.free)))
   have b5:=R4.out.to (hset8 R4.out.cell (.slice ad' (r.dk.n+j+1) cap'))
   have f5:FrP (fun q=>q=B) w4 (w4.setCell ⟨B,8,none⟩ (.slice ad' (r.dk.n+j+1) cap')):=(FrP.refl (fun q=>q=B) w4).setCell (p:=⟨B,8,none⟩) rfl _
   have HL5:Hid (JE (w4.setCell ⟨B,8,none⟩ (.slice ad' (r.dk.n+j+1) cap')) B 8=r.dk.n+j+1):=by
    have:=b5.cell 8
    unfold JE
    rw [this]
    exact rfl
   have HL4:Hid (JE wr B 8=r.dk.n+j):=by
    have:=BR.out.cell 8
    unfold JE
    rw [this]
    exact rfl
   have hb4:∀ i,rbs (Xu p1 ad' cap' g') (JC (XZ r j) slE) i→rbs p r i∨w.1.size<i:=fun i hi=>by
    rcases K4.out i hi with h|h
    ·exact HBK.out i h
    ·right
     have h2:wr.1.size≤i:=ltr (by simp) h
     omega
   have nS:∀ i,rbs (Xu p1 ad' cap' g') (JC (XZ r j) slE) i→¬i=B:=fun i hi e=>by
    rcases hb4 i hi with h|h
    ·exact HB.out i h e
    ·omega
   have HB5:Hid (Bx (w4.setCell ⟨B,8,none⟩ (.slice ad' (r.dk.n+j+1) cap')) B (rcC (XZ r (j+1)) (Xu p1 ad' cap' g').A)):=by rw [←Xr];exact b5
   have HG5:Hid (RcG (w4.setCell ⟨B,8,none⟩ (.slice ad' (r.dk.n+j+1) cap')) (XZ r (j+1)) (Xu p1 ad' cap' g')):=by rw [←Xr];exact G4.out.fr f5 nS
   have HK5:Hid (∀ i,rbs (Xu p1 ad' cap' g') (XZ r (j+1)) i→rbs p r i∨w.1.size<i):=by rw [←Xr];exact hb4
   have HX5:=hid (X4.out.frP f5 (by omega))
   have HF5:=hid ((FF.out.trans (FX.out.mono (fun q hq=>by
    rcases HG1.out hq.1 with h|h
    ·exact (Or.inl (Or.inr ⟨h.1,hq.2.trans h.2⟩):(q=B∨(r.dk.n≠0∧q=p.g1))∨w.1.size≤q)
    ·exact Or.inr (by have:=hq.2;omega)))).trans (f5.mono (fun q hq=>Or.inl (Or.inl hq))))
   have HG6:Hid (r.dk.n+(j+1)≠0→(r.dk.n≠0∧g'=p.g1)∨w.1.size<g'):=fun _=>by
    rcases HH4.out with h|h
    ·have h1:=HG1.out h.1
     rcases h1 with h1|h1
     ·exact Or.inl ⟨h1.1,h.2.trans h1.2⟩
     ·exact Or.inr (by have:=h.2;omega)
    ·right
     have h2:wr.1.size≤g':=ltr (by simp) h
     omega
   clear b5 f5 hb4 nS
   generalize (w4.setCell ⟨B,8,none⟩ (.slice ad' (r.dk.n+j+1) cap'))=w5 at *
   clear q8 qf R4 X4 G4 K4 FX
   go_roundw
   case rel=>exact ⟨j+1,_,by omega,HB5.out,HX5.out,HG5.out,HF5.out,HG6.out,HK5.out,HAA⟩
   case measure=>rw [HL5.out,HL4.out];omega
  ·obtain rfl:j=k+1-r.dk.n:=by omega
   have hkn:k<(XZ r (k+1-r.dk.n)).dk.n:=by show k<r.dk.n+(k+1-r.dk.n);omega
   have hda:p1.A.da=some ⟨p1.g1,0,none⟩:=G1.out.at_.o1.addr (by omega)
   obtain ⟨cc,rr,_⟩:=G1.out.at_.o1.row (by omega)
   have r0:=rr.cell (k*2) (by omega)
   have r1:=rr.cell (k*2+1) (by omega)
   have h8:wr.cell? ⟨B,8,none⟩=some (.slice (some ⟨p1.g1,0,none⟩) (r.dk.n+(k+1-r.dk.n)) p1.A.dc):=by rw [←hda];exact BR.out.cell 8
   go_wp2
   refine putReg3 _ _ _ _ _ _ _ _ _ _ _ _ _ _ _ _ _ _ _ _ _ _ _ _ _ _ _ _ w.1.size B p1.g1 (r.dk.n+(k+1-r.dk.n)) p1.A.dc k x wr h8 (BX.out.cell 0) (BX.out.cell 1) qlt BX.out.lt rr.lt hkn hk _ _ r0 r1 rr.free _ ?_
   intro t Y hY
   have GY:=G1.out.grow hY
   have hs:=GY.slotSet hkn x
   have hb5:∀ i,rbs p1 (JT (XZ r (k+1-r.dk.n)) k x) i→rbs p r i∨w.1.size<i:=HBK.out
   have HR1:Hid (Bx (Nt Y p1.g1 k x) B (rcC (JA r k x) p1.A)):=(BR.out.below hY qlt).frP hs.2 (ng.out _ (Or.inl rfl))
   have HR2:Hid (RcG (Nt Y p1.g1 k x) (JA r k x) p1):=hs.1
   have HR3:Hid (FrP (fun q=>q=B∨(r.dk.n≠0∧q=p.g1)) w (Nt Y p1.g1 k x)):=(FrP.of_below (P:=fun q=>q=B∨(r.dk.n≠0∧q=p.g1)) hB0).trans2 (FF.out.trans ((FrP.of_below hY).trans (hs.2.mono (fun q hq=>by
     have hq1:q=p1.g1:=hq.2
     rcases HG1.out hq.1 with h|h
     ·exact (Or.inl (Or.inr ⟨h.1,hq1.trans h.2⟩):(q=B∨(r.dk.n≠0∧q=p.g1))∨w.1.size≤q)
     ·exact Or.inr (by omega))))) (fun q hq e=>by
     rcases e with e|e
     ·exact e
     ·omega)
   have HR4:=hid hb5
   generalize Nt Y p1.g1 k x=V at *
   clear hs GY hb5
   refine bodyPost_end (results_none rfl _ _ _) rfl ⟨rfl,p1,HR1.out,HR2.out,HR3.out,fun i hi=>?_,HAA.out⟩
   rcases HR4.out i hi with h|h
   ·exact Or.inl h
   ·exact Or.inr (by omega)
set_option maxRecDepth 100000 in
theorem Fx (r:Rc) (p:RcP) (B:Nat) (w:World) (hbx:Bx w B (rcC r p.A)) (hg:RcG w r p) (hB:∀ i,rbs p r i→i≠B) (hk0:0≤r.dk.kn) (hbn:r.bn≤60) :
  Calls Tryz.prog 165 #[.pointer (some ⟨B,0,none⟩)] w fun e w'=>DoQ (fun q:RcP=>q.A.aa=none∧q.A.ac=0) B r p (JF r) w e w':=by
 obtain ⟨a,ha⟩:∃ a:Nat,r.dk.kn=(a:Int):=⟨r.dk.kn.toNat,by omega⟩
 have HT:=hid (show JF r=YS (leadS r) r.bs a (r.bn-a) by unfold JF;rw [show r.dk.kn.toNat=a by omega])
 rw [HT.out]
 obtain ⟨q0,q1,q2,q3,q4,q5,q6,q7,q8,q9,q10,q11,q12,q13,q14,q15,q16,q17⟩:=Ze hbx.cell
 have q7a:w.cell? ⟨B,7,none⟩=some (.int .i64 (a:Int)):=q7.trans (congrArg (fun b=>some (Value.int .i64 b)) ha)
 have qf:=hbx.free
 have hBl:=hbx.lt
 have HR:Hid (Bx (((((w.setCell ⟨B,11,none⟩ (.bool true)).setCell ⟨B,12,none⟩ (.bool false)).setCell ⟨B,14,none⟩ (.slice none 0 0)).setCell ⟨B,15,none⟩ (.slice none 0 0)).setCell ⟨B,16,none⟩ (.slice none 0 0)) B (rcC (leadS r) (Yo p none none none 0 0 0).A)):=hid (((((hbx.to (Zs hbx.cell (.bool true))).to (ZN (hbx.to (Zs hbx.cell (.bool true))).cell (.bool false))).to (YU ((hbx.to (Zs hbx.cell (.bool true))).to (ZN (hbx.to (Zs hbx.cell (.bool true))).cell (.bool false))).cell (.slice none 0 0))).to (XI (((hbx.to (Zs hbx.cell (.bool true))).to (ZN (hbx.to (Zs hbx.cell (.bool true))).cell (.bool false))).to (YU ((hbx.to (Zs hbx.cell (.bool true))).to (ZN (hbx.to (Zs hbx.cell (.bool true))).cell (.bool false))).cell (.slice none 0 0))).cell (.slice none 0 0))).to (JM ((((hbx.to (Zs hbx.cell (.bool true))).to (ZN (hbx.to (Zs hbx.cell (.bool true))).cell (.bool false))).to (YU ((hbx.to (Zs hbx.cell (.bool true))).to (ZN (hbx.to (Zs hbx.cell (.bool true))).cell (.bool false))).cell (.slice none 0 0))).to (XI (((hbx.to (Zs hbx.cell (.bool true))).to (ZN (hbx.to (Zs hbx.cell (.bool true))).cell (.bool false))).to (YU ((hbx.to (Zs hbx.cell (.bool true))).to (ZN (hbx.to (Zs hbx.cell (.bool true))).cell (.bool false))).cell (.slice none 0 0))).cell (.slice none 0 0))).cell (.slice none 0 0)))
 have HFR:=hid ((((((FrP.refl (fun q=>q=B) w).setCell (p:=⟨B,11,none⟩) rfl (.bool true)).setCell (p:=⟨B,12,none⟩) rfl (.bool false)).setCell (p:=⟨B,14,none⟩) rfl (.slice none 0 0)).setCell (p:=⟨B,15,none⟩) rfl (.slice none 0 0)).setCell (p:=⟨B,16,none⟩) rfl (.slice none 0 0))
 have HG:=hid hg
 have HB:=hid hB
 have HA:=hid ha
 clear hbx q0 q1 q2 q3 q4 q5 q6 q7 q8 q9 q10 q13 q17 hg hB ha hk0
 go_enter Tryz.func165,Tryz.ntmps165
 go_wp2
 obtain ⟨W1,hW1⟩:∃ W1,(((((w.setCell ⟨B,11,none⟩ (.bool true)).setCell ⟨B,12,none⟩ (.bool false)).setCell ⟨B,14,none⟩ (.slice none 0 0)).setCell ⟨B,15,none⟩ (.slice none 0 0)).setCell ⟨B,16,none⟩ (.slice none 0 0))=W1:=⟨_,rfl⟩
 rw [hW1] at HR HFR ⊢
 clear hW1 q7a qf q11 q12 q14 q15 q16
 have HR:Hid (Bx W1 B (rcC (leadS r) (Yo p none none none 0 0 0).A)):=HR
 have G0:=hid ((HG.out.fr HFR.out (fun q hq e=>HB.out q hq e)).lead)
 have HP0:=hid (show ∀ q,rbs (Yo p none none none 0 0 0) (leadS r) q→rbs p r q from fun q hq=>Om hq)
 have HP5:=hid (fun h0:r.bn≠0=>UG HG.out h0)
 have O5:=hid (HG.out.fr HFR.out (fun q hq e=>HB.out q hq e)).at_.o5
 have L5:=hid (show r.bn≠0→p.g5<W1.1.size∧p.g5≠B from fun h0=>⟨ltl (Zr HG.out.at_ (j:=5) (by omega) ⟨h0,rfl⟩) HFR.out.size,HB.out _ ⟨5,by omega,h0,rfl⟩⟩)
 have HFIN:=hid (show ∀ w2 r2,DoQ (fun q:RcP=>q.A.aa=none∧q.A.ac=0) B (leadS r) (Yo p none none none 0 0 0) r2 W1 (.returned (.tuple #[])) w2→DoQ (fun q:RcP=>q.A.aa=none∧q.A.ac=0) B r p r2 w (.returned (.tuple #[])) w2 from fun w2 r2 h=>DoQ.then (HFR.out.mono (fun q hq=>Or.inl hq)) (fun q hq=>Or.inl (HP0.out q hq)) h)
 have HA0:Hid ((Yo p none none none 0 0 0).A.aa=none∧(Yo p none none none 0 0 0).A.ac=0):=hid ⟨rfl,rfl⟩
 have HB0:=hid (show ∀ q,rbs (Yo p none none none 0 0 0) (leadS r) q→q≠B from fun q hq=>HB.out q (HP0.out q hq))
 obtain ⟨bs,hbs⟩:∃ bs,r.bs=bs:=⟨_,rfl⟩
 obtain ⟨bn,hbe⟩:∃ bn,r.bn=bn:=⟨_,rfl⟩
 obtain ⟨r0,hr0⟩:∃ r0,leadS r=r0:=⟨_,rfl⟩
 obtain ⟨p0,hp0⟩:∃ p0,Yo p none none none 0 0 0=p0:=⟨_,rfl⟩
 rw [hp0] at HA0
 rw [hr0,hp0] at HR G0 HP5 HFIN HB0
 rw [hbs,hbe] at O5
 rw [hbe] at L5 HP5 hbn ⊢
 clear HP0 HG HB HFR
 have HE1:=hid hr0
 have HE2:=hid hbs
 have HE3:=hid hbe
 clear hr0 hbs hbe hp0
 obtain ⟨K,hK⟩:∃ K,bn-a=K:=⟨_,rfl⟩
 have HKE:=hid hK
 clear hK
 have hBl1:=HR.out.lt
 go_loopw [3] (fun i wr=>∃ k pk,k≤K∧i=.int .i64 ((a+k:Nat):Int)∧Bx wr B (rcC (YS r0 bs a k) pk.A)∧RcG wr (YS r0 bs a k) pk∧FrP (fun q=>q=B∨rbs p0 r0 q) W1 wr∧(∀ q,rbs pk (YS r0 bs a k) q→rbs p0 r0 q∨W1.1.size≤q)∧Hid (pk.A.aa=none∧pk.A.ac=0)) (fun i _=>a+K-(intOf i).toNat)
 case atStart=>exact ⟨0,p0,zle _,rfl,HR.out,G0.out,FrP.refl _ _,fun q hq=>Or.inl hq,HA0⟩
 case round=>
  obtain ⟨k,pk,hk,rfl,bx,g,hf,hs,HAK⟩:=hrel
  have BX:=hid bx
  have G:=hid g
  have HF:=hid hf
  have HS:=hid hs
  clear bx g hf hs HR G0
  by_cases hkK:k<K
  ·have hin:a+k<bn:=by have:=HKE.out;omega
   obtain ⟨l5,l5b⟩:=L5.out (by omega)
   have o5:=O5.out.frP HF.out (fun h0=>⟨fun e=>by rcases e with e|e;exact l5b e;exact HP5.out (by omega) e,l5⟩)
   have eA:=o5.addr (by omega)
   obtain ⟨cc,rr,hat⟩:=o5.row (by omega)
   have hc1:wr.cell? ⟨p.g5,(a+k)*2+1,none⟩=some (.string (bs (a+k)).text):=by rw [rr.cell _ (by omega),(hat (a+k) hin).2]
   have hg5:=rr.lt
   have HC1:=hid hc1
   have EA:=hid eA
   clear o5 rr hat hc1 eA
   obtain ⟨rk,hrk⟩:∃ rk,YS r0 bs a k=rk:=⟨_,rfl⟩
   have HRK:=hid hrk
   rw [hrk] at BX G HS
   clear hrk
   have HBk:=hid (show ∀ q,rbs pk rk q→q≠B from fun q hq=>by rcases HS.out q hq with h|h;exact HB0.out q h;omega)
   rw [EA.out]
   go_wp2
   refine leaReg6 _ _ _ _ _ _ _ _ _ _ _ _ _ _ _ _ _ _ _ _ _ _ _ _ _ _ _ _ _ _ _ _ _ _ _ _ _ _ _ _ _ _ _ _ _ _ _ B p.g5 (a+k) bn p.A.bc rk.bal (bs (a+k)).text (fun w'=>DoQ (fun q:RcP=>q.A.aa=none∧q.A.ac=0) B rk pk (JA rk (a+k) ⟨rk.bal,(bs (a+k)).text⟩) wr (.returned (.tuple #[])) w') wr BX.out.lt hg5 hin (by omega) (BX.out.cell 13) HC1.out (fun X hb=>(put_doA rk pk B (a+k) ⟨rk.bal,(bs (a+k)).text⟩ X (BX.out.below hb BX.out.lt) (G.out.grow hb) HBk.out (by omega)).mono fun e w' ⟨he,p',hx,hg,hf,hr,ha1,ha2⟩=>⟨he,rfl,p',hx,hg,(FrP.of_below hb).trans2 hf (fun q _ hq=>by
    rcases hq with hq|⟨h1,h2⟩
    ·exact Or.inl hq
    ·exact Or.inr ⟨1,by omega,h1,h2⟩),fun q hq=>by
    rcases hr q hq with h|h
    ·exact Or.inl h
    ·exact Or.inr (ltr hb.size h),ha1.trans HAK.out.1,ha2.trans HAK.out.2⟩) _ ?_
   intro t9 v9 wz hdo
   have HD:=hid hdo
   clear hdo
   go_wp2
   go_roundw
   case rel=>
    obtain ⟨_,p5,x5,g5,f5,s5,a5⟩:=DoQ.then HF.out HS.out HD.out
    have e1:=HRK.out
    subst e1
    exact ⟨k+1,p5,by omega,by go_num,x5,g5,f5,s5,hid a5⟩
   case measure=>simp [intOf];omega
  ·have hge:¬(((a+k:Nat):Int)<(bn:Int)):=by have:=HKE.out;omega
   go_wp2
   refine bodyPost_end (results_none rfl _ _ _) rfl ?_
   have hkk:k=K:=by omega
   have e1:=HE1.out
   have e2:=HE2.out
   have e3:=HE3.out
   have e4:=HKE.out
   subst hkk e1 e2 e3
   rw [e4]
   exact HFIN.out _ _ ⟨rfl,pk,BX.out,G.out,HF.out,HS.out,HAK.out⟩
set_option maxRecDepth 100000 in
theorem It (r:Rc) (p:RcP) (B:Nat) (x:Int) (mn:Nat) (ms:Nat→Sl) (mv:Value) (w:World) (hbx:Bx w B (rcC r p.A)) (hg:RcG w r p) (hB:∀ i,rbs p r i→i≠B) (hyc:p.A.yc=r.yn) (hbc:p.A.bc=r.bn) (hb0:r.bn=0→p.A.ba=none) (hyn:r.yn≤999) (hasc:∀ i j,i<j→j<r.yn→r.ys i<r.ys j) (hbn:r.bn≤60) (hk0:0≤r.dk.kn) (hmn:mn≤60) (hld:r.ld=false) (hmg:∀ W2,FrP (fun q=>q=B) w W2→SlsAt W2 p.A.ba p.g5 r.bn r.bs→(r.bn≠0→p.g5<W2.1.size)→Calls Tryz.prog 163 #[.slice p.A.ba r.bn r.bn,mv] W2 fun e w'=>∃ ad' cap' g',e=.returned (.slice ad' (max r.bn mn) cap')∧SlsAt w' ad' g' (max r.bn mn) (mgS r.bn r.bs mn ms)∧W2.1.size≤g'∧(max r.bn mn≠0→g'<w'.1.size)∧Below W2.1.size W2 w') :
  Calls Tryz.prog 142 #[.pointer (some ⟨B,0,none⟩),.int .i64 x,mv] w fun e w'=>DoQ (fun q:RcP=>(Je r x mn ms).ld=true→q.A.aa=none∧q.A.ac=0) B r p (Je r x mn ms) w e w':=by
 obtain ⟨O,hO⟩:∃ O,Je r x mn ms=O:=⟨_,rfl⟩
 rw [hO]
 have HO:=hid hO
 have HLD:=hid hld
 have HBX:=hid hbx
 have HG:=hid hg
 have HB:=hid hB
 have HM:=hid hmg
 have HB0:=hid hb0
 have hBl:=hbx.lt
 have hAN:Zy r.yn r.ys x≤1000:=by unfold Zy;split<;>omega
 have RW:=hid (KH r.yn r.ys p.A.ya p.g4 x w hyn hasc (fun h=>Zr hg.at_ (j:=4) (by omega) ⟨by omega,rfl⟩) hg.at_.o4)
 have q14:w.cell? ⟨B,14,none⟩=some (.slice p.A.ya r.yn r.yn):=(hbx.cell 14).trans (congrArg (fun c=>some (Value.slice p.A.ya r.yn c)) hyc)
 clear hO hbx hg hB hmg hb0 hasc hld
 go_enter Tryz.func142,Tryz.ntmps142
 go_wp2_with (go_at_call 162;go_must (refine RW.out.mono ?_;rintro e w1 ⟨ad1,cap1,g1,rfl,ho1,hl1,hor1,hb1⟩;have O1:=hid ho1;have OR1:=hid hor1;have B1:=hid hb1;have X1:=hid (HBX.out.below hb1 hBl);clear ho1 hor1 hb1 RW q14;have c14:w1.cell? ⟨B,14,none⟩=some (.slice p.A.ya r.yn p.A.yc):=X1.out.cell 14;have c15:w1.cell? ⟨B,15,none⟩=some (.slice p.A.ba r.bn r.bn):=(X1.out.cell 15).trans (congrArg (fun c=>some (Value.slice p.A.ba r.bn c)) hbc);have qf:=X1.out.free;have hBl1:=X1.out.lt))
 have X2:=hid (X1.out.to (YU X1.out.cell (.slice ad1 (Zy r.yn r.ys x) cap1)))
 have F2:=hid ((FrP.of_below (P:=fun q=>q=B) B1.out).setCell (p:=⟨B,14,none⟩) rfl (.slice ad1 (Zy r.yn r.ys x) cap1))
 have O2:=hid (show IntsOwn (w1.setCell ⟨B,14,none⟩ (.slice ad1 (Zy r.yn r.ys x) cap1)) g1 (g1+1) ad1 (Zy r.yn r.ys x) (ZJ r.yn r.ys x) from O1.out.frP ((FrP.refl (fun q=>q=B) w1).setCell (p:=⟨B,14,none⟩) rfl _) (fun _=>⟨fun e=>by
  rcases OR1.out with ⟨h1,h2⟩|h1
  ·exact HB.out g1 ⟨4,by omega,by omega,h1⟩ e
  ·omega,hl1⟩))
 have hz2:(w1.setCell ⟨B,14,none⟩ (.slice ad1 (Zy r.yn r.ys x) cap1)).1.size=w1.1.size:=World.size_setCell _ _ _
 obtain ⟨W2,hW2⟩:∃ W2,w1.setCell ⟨B,14,none⟩ (.slice ad1 (Zy r.yn r.ys x) cap1)=W2:=⟨_,rfl⟩
 rw [hW2] at X2 F2 O2 hz2 ⊢
 clear hW2 c14 c15 qf X1 O1
 have X2:Hid (Bx W2 B (rcC (XM r (Zy r.yn r.ys x) (ZJ r.yn r.ys x)) (Ui p ad1 cap1 g1).A)):=X2
 have G2:=hid ((HG.out.fr F2.out (fun q hq e=>HB.out q hq e)).yes (cap:=cap1) O2.out (fun _=>by omega) (fun _ j hj h4 hrb=>by
  rcases OR1.out with ⟨h1,h2⟩|h1
  ·exact h4 (HG.out.at_.ap j 4 g1 hj (by omega) hrb ⟨by omega,h1⟩)
  ·have:=Zr HG.out.at_ hj hrb;omega))
 have S2:=hid (show ∀ q,rbs (Ui p ad1 cap1 g1) (XM r (Zy r.yn r.ys x) (ZJ r.yn r.ys x)) q→rbs p r q∨w.1.size≤q from fun q hq=>by
  rcases PF hq with h|⟨_,h⟩
  ·exact Or.inl h
  ·rcases OR1.out with ⟨h1,h2⟩|h1
   ·exact Or.inl ⟨4,by omega,by omega,h.trans h1⟩
   ·exact Or.inr (by omega))
 have MG:=hid (HM.out W2 F2.out G2.out.at_.o5 (fun h0=>Zr G2.out.at_ (j:=5) (by omega) ⟨h0,rfl⟩))
 refine MG.out.mono ?_
 rintro e w3 ⟨ad3,cap3,g3,rfl,ho3,hl3,hk3,hb3⟩
 have X3:=hid (X2.out.below hb3 X2.out.lt)
 have c15:w3.cell? ⟨B,15,none⟩=some (.slice p.A.ba r.bn p.A.bc):=X3.out.cell 15
 have qf:=X3.out.free
 have hBl3:=X3.out.lt
 have X4:=hid (X3.out.to (XI X3.out.cell (.slice ad3 (max r.bn mn) cap3)))
 have FB:=(FrP.refl (fun q=>q=B) w3).setCell (p:=⟨B,15,none⟩) rfl (.slice ad3 (max r.bn mn) cap3)
 have F4:=hid ((F2.out.trans ((FrP.of_below (P:=fun q=>q=B) hb3).setCell (p:=⟨B,15,none⟩) rfl (.slice ad3 (max r.bn mn) cap3))).mono (fun q hq=>(Or.inl hq:q=B∨rbs p r q)))
 have hz3:=hb3.size
 have hzw:=F2.out.size
 have hbl2:=X2.out.lt
 have O4:=hid (ho3.frP FB (fun h0=>⟨by omega,hk3 h0⟩))
 have G3:=hid ((G2.out.grow hb3).fr FB (fun q hq e=>by rcases S2.out q hq with h|h;exact HB.out q h e;omega))
 have hz4:(w3.setCell ⟨B,15,none⟩ (.slice ad3 (max r.bn mn) cap3)).1.size=w3.1.size:=World.size_setCell _ _ _
 have G4:=hid (G3.out.best (cap:=cap3) O4.out (fun h0=>by have:=hk3 h0;omega) (fun _ j hj h5 hrb=>by have:=Zr G2.out.at_ hj hrb;omega))
 have S4:=hid (show ∀ q,rbs (YN (Ui p ad1 cap1 g1) ad3 cap3 g3) (ZU (XM r (Zy r.yn r.ys x) (ZJ r.yn r.ys x)) (max r.bn mn) (mgS r.bn r.bs mn ms)) q→rbs p r q∨w.1.size≤q from fun q hq=>by
  rcases On hq with h|⟨_,h⟩
  ·exact S2.out q h
  ·exact Or.inr (by omega))
 clear ho3 hl3 hk3 hb3 FB O2 MG G2 G3 O4
 go_wp2
 obtain ⟨W4,hW4⟩:∃ W4,w3.setCell ⟨B,15,none⟩ (.slice ad3 (max r.bn mn) cap3)=W4:=⟨_,rfl⟩
 rw [hW4] at X4 F4 G4 ⊢
 clear hW4 c15 qf X3 hz4
 have X4:Hid (Bx W4 B (rcC (ZU (XM r (Zy r.yn r.ys x) (ZJ r.yn r.ys x)) (max r.bn mn) (mgS r.bn r.bs mn ms)) (YN (Ui p ad1 cap1 g1) ad3 cap3 g3).A)):=X4
 obtain ⟨p4,hp4⟩:∃ p4,YN (Ui p ad1 cap1 g1) ad3 cap3 g3=p4:=⟨_,rfl⟩
 have hX4:=X4.out.cell 14
 have hq14:W4.cell? ⟨B,14,none⟩=some (.slice ad1 (Zy r.yn r.ys x) cap1):=hX4
 rw [hp4] at X4 G4 S4
 clear hp4 hX4
 have HB4:=hid (show ∀ q,rbs p4 (ZU (XM r (Zy r.yn r.ys x) (ZJ r.yn r.ys x)) (max r.bn mn) (mgS r.bn r.bs mn ms)) q→q≠B from fun q hq=>by rcases S4.out q hq with h|h;exact HB.out q h;omega)
 cases h9:decide (r.of<2*((Zy r.yn r.ys x:Nat):Int)) with
 | true=>
  have HT:=hid (show O=JF (ZU (XM r (Zy r.yn r.ys x) (ZJ r.yn r.ys x)) (max r.bn mn) (mgS r.bn r.bs mn ms)) from HO.out.symm.trans (if_pos (of_decide_eq_true h9)))
  have HMO:=hid (Jo (Zy r.yn r.ys x) ad1 cap1 r.of true (by omega) h9)
  have b1:=Zc (W1:=W4) (p:=⟨B,1,none⟩) (v:=.int .i64 r.of) (X4.out.cell 1) X4.out.lt
  have b14:=Zc (W1:=W4) (p:=⟨B,14,none⟩) (v:=.slice ad1 (Zy r.yn r.ys x) cap1) hq14 X4.out.lt
  have hne:Nonempty (GW W4):=⟨⟨_,br _ _⟩⟩
  refine Zf (by kernel_rfl) (by kernel_rfl) ?_
  repeat (go_big_quiet_step ((go_at_call 164;go_must (exact Zp (HMO.out _)))))
  refine wpQuiet_nil ?_
  rintro w8 ⟨u,hu⟩
  have hw8:Below W4.1.size W4 w8:=hu▸u.prop
  clear hu u hne b1 b14
  have X8:=hid (X4.out.below hw8 X4.out.lt)
  have G8:=hid (G4.out.grow hw8)
  have F8:=hid (F4.out.trans (FrP.of_below hw8))
  clear hw8
  have LD:=hid (Fx (ZU (XM r (Zy r.yn r.ys x) (ZJ r.yn r.ys x)) (max r.bn mn) (mgS r.bn r.bs mn ms)) p4 B w8 X8.out G8.out HB4.out hk0 (by show max r.bn mn≤60;omega))
  go_wp2_with (go_at_call 165;go_must (refine LD.out.mono ?_;rintro e w9 hd;have he:=hd.1;subst he;have HD:=hid hd;clear hd))
  refine bodyPost_end (results_none rfl _ _ _) rfl ?_
  rw [HT.out]
  exact (DoQ.then F8.out S4.out HD.out).mono (fun q hq _=>hq)
 | false=>
  have HT:=hid (show O=(ZU (XM r (Zy r.yn r.ys x) (ZJ r.yn r.ys x)) (max r.bn mn) (mgS r.bn r.bs mn ms)) from HO.out.symm.trans (if_neg (of_decide_eq_false h9)))
  have HMO:=hid (Jo (Zy r.yn r.ys x) ad1 cap1 r.of false (by omega) h9)
  have b1:=Zc (W1:=W4) (p:=⟨B,1,none⟩) (v:=.int .i64 r.of) (X4.out.cell 1) X4.out.lt
  have b14:=Zc (W1:=W4) (p:=⟨B,14,none⟩) (v:=.slice ad1 (Zy r.yn r.ys x) cap1) hq14 X4.out.lt
  have hne:Nonempty (GW W4):=⟨⟨_,br _ _⟩⟩
  refine Zf (by kernel_rfl) (by kernel_rfl) ?_
  repeat (go_big_quiet_step ((go_at_call 164;go_must (exact Zp (HMO.out _)))))
  refine wpQuiet_nil ?_
  rintro w8 ⟨u,hu⟩
  have hw8:Below W4.1.size W4 w8:=hu▸u.prop
  clear hu u hne b1 b14
  have X8:=hid (X4.out.below hw8 X4.out.lt)
  have G8:=hid (G4.out.grow hw8)
  have F8:=hid (F4.out.trans (FrP.of_below hw8))
  clear hw8
  go_wp2
  refine bodyPost_end (results_none rfl _ _ _) rfl ?_
  rw [HT.out]
  exact ⟨rfl,_,X8.out,G8.out,F8.out,S4.out,fun h=>absurd (HLD.out.symm.trans (show r.ld=true from h)) (by simp)⟩
theorem Iu (r:Rc) (p:RcP) (B:Nat) (x:Int) (w:World) (hbx:Bx w B (rcC r p.A)) (hg:RcG w r p) (hB:∀ i,rbs p r i→i≠B) (hyc:p.A.yc=r.yn) (hbc:p.A.bc=r.bn) (hb0:r.bn=0→p.A.ba=none) (hda:r.dk.n=0→p.A.da=none) (hyn:r.yn≤999) (hasc:∀ i j,i<j→j<r.yn→r.ys i<r.ys j) (hbn:r.bn≤60) (hk0:0≤r.dk.kn) (hdn:r.dk.n≤60) (hld:r.ld=false) :
  Calls Tryz.prog 142 #[.pointer (some ⟨B,0,none⟩),.int .i64 x,.slice p.A.da r.dk.n p.A.dc] w fun e w'=>DoQ (fun q:RcP=>(Je r x r.dk.n r.dk.s).ld=true→q.A.aa=none∧q.A.ac=0) B r p (Je r x r.dk.n r.dk.s) w e w':=by
 refine It r p B x r.dk.n r.dk.s (.slice p.A.da r.dk.n p.A.dc) w hbx hg hB hyc hbc hb0 hyn hasc hbn hk0 hdn hld (fun W2 hf ho hl=>?_)
 by_cases e0:r.dk.n=0
 ·have ec:=hg.rm.d0 e0
  rw [hda e0,e0,ec]
  by_cases e:r.bn=0
  ·rw [hb0 e,e]
   refine (Pm W2).mono ?_
   rintro e' w' ⟨ad',cap',g,h1,h2,h3⟩
   exact ⟨ad',cap',g,h1,Na _ _ _ _,h2,fun h=>absurd rfl h,h3⟩
  ·have ea:=ho.addr (by omega)
   have hs:=ho.isInG hl
   rw [ea] at hs ⊢
   rw [Nat.max_eq_left (zle _)]
   refine (Nz r.bn r.bs p.g5 0 r.bn W2 0 W2.1.size (lrf _) hbn (lrf _) hs).mono ?_
   rintro e' w' ⟨ad',cap',g',h1,h2,h3⟩
   exact ⟨ad',cap',g',h1,h2.cong (fun i hi=>by simp [mgS,hi]),h3⟩
 ·have h1:rbs p r p.g1:=⟨1,by omega,e0,rfl⟩
  have o1:=hg.at_.o1.frP hf (fun h0=>⟨fun e=>hB _ h1 e,hg.at_.lt _ h1⟩)
  have i1:=o1.isInG (fun _=>ltl (hg.at_.lt _ h1) hf.size)
  have ea:=hg.at_.o1.addr (by omega)
  rw [ea] at i1 ⊢
  exact Et r.bn r.dk.n r.bs r.dk.s p.A.ba p.g5 p.g1 0 p.A.dc W2 hbn hdn hg.rm.dl ho hl hb0 i1
structure AckW (r:Rc):Prop where
 ix:∀ i,i<r.an→1≤(r.as_ i).ix∧(r.as_ i).ix≤60
 asc:∀ i j,i<j→j<r.an→(r.as_ i).ix<(r.as_ j).ix
 fin:∀ i,i<r.an→∀ a,a<(r.as_ i).n→1≤(r.as_ i).s a∧(r.as_ i).s a≤10
 fasc:∀ i,i<r.an→∀ a b,a<b→b<(r.as_ i).n→(r.as_ i).s a<(r.as_ i).s b
 k0:0≤r.dk.kn
 k1:r.dk.kn≤r.dk.n
 dn:r.dk.n≤60
theorem PP {n:Nat} {s:Nat→Int} {M:Int} (h:∀ i j,i<j→j<n→s i<s j) (h1:∀ i,i<n→1≤s i∧s i≤M) (hM:0≤M):(n:Int)≤M:=
 PO (fun i hi=>by
  rcases Nat.eq_zero_or_pos i with e|e
  ·exact Or.inl e
  ·exact Or.inr (h _ _ (by omega) hi)) h1 hM
theorem AckW.ackV {r:Rc} (h:AckW r):EK r:=
 ⟨by have:=PP (M:=60) h.asc h.ix (by omega);omega,fun i hi=>⟨by have:=(h.ix i hi).1;omega,by have:=(h.ix i hi).2;omega⟩,h.asc,fun i hi=>by have:=PP (M:=10) (h.fasc i hi) (h.fin i hi) (by omega);omega,h.fasc,h.k0,h.k1,h.dn⟩
theorem ins_gt {n:Nat} {s:Nat→Int} {x:Int} (hasc:∀ i j,i<j→j<n→s i<s j) (hh:XN n s x=false) {j:Nat} (h1:rk s x n≤j) (h2:j<n):x<s j:=by
 have hlt:rk s x n<n:=by omega
 have hge:=Fa s x n hlt
 have hne:s (rk s x n)≠x:=fun e=>by simp [XN,hlt,e] at hh
 rcases Nat.lt_or_ge (rk s x n) j with h|h
 ·have:=hasc _ _ h h2
  omega
 ·have e:j=rk s x n:=by omega
  rw [e]
  omega
theorem PK {n:Nat} {s:Nat→Int} {x:Int} (hasc:∀ i j,i<j→j<n→s i<s j) (hh:XN n s x=false):∀ a b,a<b→b<n+1→U8 s (rk s x n) x a<U8 s (rk s x n) x b:=fun a b hab hb=>by
 have gt:=fun j (h1:rk s x n≤j) (h2:j<n)=>ins_gt hasc hh h1 h2
 have lt:=PC s x n
 have le:=KG s x n
 obtain ⟨k,hk⟩:∃ k,rk s x n=k:=⟨_,rfl⟩
 rw [hk] at gt lt le ⊢
 unfold U8
 by_cases a1:a<k
 ·rw [if_pos a1]
  have:=lt a a1
  by_cases b1:b<k
  ·rw [if_pos b1];exact hasc a b hab (by omega)
  ·rw [if_neg b1]
   by_cases b2:b=k
   ·rw [if_pos b2];exact this
   ·rw [if_neg b2]
    have:=gt (b-1) (by omega) (by omega)
    omega
 ·rw [if_neg a1,if_neg (show ¬b<k by omega),if_neg (show ¬b=k by omega)]
  by_cases a2:a=k
  ·rw [if_pos a2];exact gt (b-1) (by omega) (by omega)
  ·rw [if_neg a2];exact hasc _ _ (by omega) (by omega)
theorem Fz {n:Nat} {s:Nat→Int} {x M:Int} {k:Nat} (h1:∀ i,i<n→1≤s i∧s i≤M) (hx:1≤x∧x≤M) (hk:k≤n):∀ a,a<n+1→1≤U8 s k x a∧U8 s k x a≤M:=fun a ha=>by
 unfold U8
 by_cases a1:a<k
 ·rw [if_pos a1];exact h1 a (by omega)
 ·rw [if_neg a1]
  by_cases a2:a=k
  ·rw [if_pos a2];exact hx
  ·rw [if_neg a2];exact h1 _ (by omega)
theorem add_ok {n:Nat} {s:Nat→Int} {x M:Int} (hasc:∀ i j,i<j→j<n→s i<s j) (h1:∀ i,i<n→1≤s i∧s i≤M) (hx:1≤x∧x≤M):(∀ a,a<Zy n s x→1≤ZJ n s x a∧ZJ n s x a≤M)∧(∀ a b,a<b→b<Zy n s x→ZJ n s x a<ZJ n s x b):=by
 unfold Zy ZJ
 cases hh:XN n s x
 ·exact ⟨Fz h1 hx (KG _ _ _),PK hasc hh⟩
 ·exact ⟨h1,hasc⟩
theorem IA (f:Nat→Ak) (k:Nat) (ix:Int) (j:Nat):(YF f k (ak0 ix) j).ix=U8 (fun i=>(f i).ix) k ix j:=by
 unfold YF U8
 by_cases a1:j<k
 ·rw [if_pos a1,if_pos a1]
 ·rw [if_neg a1,if_neg a1]
  by_cases a2:j=k
  ·rw [if_pos a2,if_pos a2]
  ·rw [if_neg a2,if_neg a2]
theorem AckW.have_ {r:Rc} (h:AckW r) {ix:Int} (hx:1≤ix∧ix≤60):AckW (Jg r ix)∧rk (fun i=>(r.as_ i).ix) ix r.an<(Jg r ix).an:=by
 unfold Jg
 have le:=KG (fun i=>(r.as_ i).ix) ix r.an
 cases hh:XN r.an (fun i=>(r.as_ i).ix) ix
 ·refine ⟨⟨fun i hi=>?_,fun i j hij hj=>?_,fun i hi=>?_,fun i hi=>?_,h.k0,h.k1,h.dn⟩,Nat.lt_succ_of_le le⟩
  ·show 1≤(YF r.as_ _ (ak0 ix) i).ix∧(YF r.as_ _ (ak0 ix) i).ix≤60
   rw [IA]
   exact Fz h.ix hx le i hi
  ·show (YF r.as_ _ (ak0 ix) i).ix<(YF r.as_ _ (ak0 ix) j).ix
   rw [IA,IA]
   exact PK h.asc hh i j hij hj
  ·show ∀ a,a<(YF r.as_ _ (ak0 ix) i).n→_
   have hi':i<r.an+1:=hi
   rcases Nat.lt_trichotomy i (rk (fun i=>(r.as_ i).ix) ix r.an) with h1|h1|h1
   ·show ∀ a,a<(YF r.as_ _ (ak0 ix) i).n→1≤(YF r.as_ _ (ak0 ix) i).s a∧(YF r.as_ _ (ak0 ix) i).s a≤10
    rw [YH h1];exact h.fin i (by omega)
   ·rw [←h1,Yf];exact fun a ha=>absurd ha (nlz _)
   ·show ∀ a,a<(YF r.as_ _ (ak0 ix) i).n→1≤(YF r.as_ _ (ak0 ix) i).s a∧(YF r.as_ _ (ak0 ix) i).s a≤10
    rw [YI h1];exact h.fin (i-1) (by omega)
  ·have hi':i<r.an+1:=hi
   show ∀ a b,a<b→b<(YF r.as_ _ (ak0 ix) i).n→(YF r.as_ _ (ak0 ix) i).s a<(YF r.as_ _ (ak0 ix) i).s b
   rcases Nat.lt_trichotomy i (rk (fun i=>(r.as_ i).ix) ix r.an) with h1|h1|h1
   ·rw [YH h1];exact h.fasc i (by omega)
   ·rw [←h1,Yf];exact fun a b _ hb=>absurd hb (nlz _)
   ·rw [YI h1];exact h.fasc (i-1) (by omega)
 ·refine ⟨h,?_⟩
  simp only [XN,Bool.and_eq_true,decide_eq_true_eq] at hh
  exact hh.1
theorem AckW.put {r:Rc} (h:AckW r) {k:Nat} (hk:k<r.an) {x:Int} (hx:1≤x∧x≤10):AckW (Zw r k x):=by
 have ao:=add_ok (h.fasc k hk) (h.fin k hk) hx
 refine ⟨fun i hi=>?_,fun i j hij hj=>?_,fun i hi=>?_,fun i hi=>?_,h.k0,h.k1,h.dn⟩
 ·have e:((Zw r k x).as_ i).ix=(r.as_ i).ix:=by
   show (updF r.as_ k _ i).ix=_
   by_cases e:i=k
   ·subst e;rw [Zm]
   ·rw [Zn _ _ e]
  rw [e];exact h.ix i hi
 ·have e:∀ i,((Zw r k x).as_ i).ix=(r.as_ i).ix:=fun i=>by
   show (updF r.as_ k _ i).ix=_
   by_cases e:i=k
   ·subst e;rw [Zm]
   ·rw [Zn _ _ e]
  rw [e,e];exact h.asc i j hij hj
 ·show ∀ a,a<(updF r.as_ k _ i).n→1≤(updF r.as_ k _ i).s a∧(updF r.as_ k _ i).s a≤10
  by_cases e:i=k
  ·subst e;rw [Zm];exact ao.1
  ·rw [Zn _ _ e];exact h.fin i hi
 ·show ∀ a b,a<b→b<(updF r.as_ k _ i).n→(updF r.as_ k _ i).s a<(updF r.as_ k _ i).s b
  by_cases e:i=k
  ·subst e;rw [Zm];exact ao.2
  ·rw [Zn _ _ e];exact h.fasc i hi
theorem AckW.took {r:Rc} (h:AckW r) {x ix:Int} (hx:1≤x∧x≤10) (hi:1≤ix∧ix≤60):AckW (Ya r x ix):=by
 obtain ⟨h1,h2⟩:=h.have_ hi
 have h3:=h1.put h2 hx
 have h4:=KY _ h3.k0 h3.k1 (Zw (Jg r ix) (rk (fun i=>(r.as_ i).ix) ix r.an) x).an
 exact ⟨h3.ix,h3.asc,h3.fin,h3.fasc,h4.1,h4.2,h3.dn⟩
theorem NT (r:Rc) (x ix:Int):Ya r x ix = { r with dk:={ r.dk with kn:=(Ya r x ix).dk.kn },an:=(Ya r x ix).an,as_:=(Ya r x ix).as_ }:=by
 unfold Ya Jg
 cases XN r.an (fun i=>(r.as_ i).ix) ix<;>rfl
def Xs (r:Rc):Nat→Rc
 | 0=>r
 | j+1=>if (r.sf.s j).bal=r.bal then Ya (Xs r j) r.num ((j:Int)+1) else Xs r j
theorem Jf (r:Rc):∀ j,Xs r j = { r with dk:={ r.dk with kn:=(Xs r j).dk.kn },an:=(Xs r j).an,as_:=(Xs r j).as_ }
 | 0=>rfl
 | j+1=>by
  have h:=Jf r j
  rw [Xs]
  split
  ·have h2:=NT (Xs r j) r.num ((j:Int)+1)
   obtain ⟨R,hR⟩:∃ R,Ya (Xs r j) r.num ((j:Int)+1)=R:=⟨_,rfl⟩
   obtain ⟨Q,hQ⟩:∃ Q,Xs r j=Q:=⟨_,rfl⟩
   rw [hR,hQ] at h2
   rw [hQ] at h
   rw [hR,h2,h]
  ·exact h
theorem AckW.tws {r:Rc} (h:AckW r) (hn:1≤r.num∧r.num≤10):∀ j,j≤60→AckW (Xs r j)
 | 0,_=>h
 | j+1,hj=>by
  have h1:=AckW.tws h hn j (by omega)
  rw [Xs]
  split
  ·exact h1.took hn (by omega)
  ·exact h1
structure AkRm (w:World) (r:Rc) (p:RcP):Prop where
 al:r.an≤p.A.ac
 a0:r.an=0→p.A.ac=0
 rm:r.an≠0→Room w p.g6 (p.A.ac*2)
theorem AkRm.fr {w w':World} {r:Rc} {p:RcP} {P:Nat→Prop} (h:AkRm w r p) (hf:FrP P w w') (hp:r.an≠0→¬P p.g6):AkRm w' r p:=⟨h.al,h.a0,fun h0=>Ye (h.rm h0) hf (hp h0)⟩
theorem AkRm.grow {w w':World} {r:Rc} {p:RcP} (h:AkRm w r p) (hf:Below w.1.size w w'):AkRm w' r p:=h.fr (FrP.of_below (P:=fun _=>False) hf) (fun _ h=>h)
theorem AksAt.rw {w:World} {r:Rc} {p:RcP} (h:AksAt w p.A.aa p.g6 r.an r.as_ p.AA p.AC p.Ab) (hm:AkRm w r p):∃ c,Rw w p.A.aa p.g6 r.an p.A.ac 2 c∧(∀ j,j<r.an*2→(c j).oneCell'=true)∧∀ i,i<r.an→atAk c i (r.as_ i) (p.AA i) (p.AC i):=by
 rcases Nat.eq_zero_or_pos r.an with h0|h0
 ·have ec:=hm.a0 h0
  rw [h0,ec]
  exact ⟨fun _=>.int .i64 0,Rw.none _ _ _ _ _,fun j hj=>absurd hj (by omega),fun i hi=>absurd hi (nlz _)⟩
 ·obtain ⟨c,r',hat⟩:=h.row h0
  exact ⟨c,⟨fun _=>h.addr h0,hm.al,fun _=>hm.rm (by omega),r'.cell⟩,OX hat,hat⟩
theorem AksAt.insR {w w':World} {ad:Option Addr} {g n:Nat} {x:Nat→Ak} {A:Nat→Option Addr} {C hb:Nat→Nat} (h:AksAt w ad g n x A C hb) (hf:FrP (fun q=>0<n∧q=g) w w') {k:Nat} (hk:k≤n) {g':Nat} (hg:(0<n∧g'=g)∨w.1.size≤g') {c:Nat→Value} (hc:∀ i,i<n→atAk c i (x i) (A i) (C i)) (ix:Int)
  (hrow:RowF w' g' ((n+1)*2) (Jc c k 2 (akD ix))):AksAt w' (some ⟨g',0,none⟩) g' (n+1) (YF x k (ak0 ix)) (YF A k none) (YF C k 0) (YF hb k 0):=by
 have hold2:∀ i,i<n→IntsOwn w' (hb i) (hb i+1) (A i) (x i).n (x i).s:=fun i hi=>(h.hold i hi).frP hf (fun h0=>⟨fun e=>h.ap.1 i hi h0 e.2,h.hlt i hi h0⟩)
 have nz:∀ i,i<n+1→(YF x k (ak0 ix) i).n≠0→∃ j,j<n∧(x j).n≠0∧YF hb k 0 i=hb j∧(i<k∧j=i∨k<i∧j=i-1):=fun i hi h0=>by
  rcases Nat.lt_trichotomy i k with h1|h1|h1
  ·rw [YH h1] at h0
   exact ⟨i,by omega,h0,YH h1,Or.inl ⟨h1,rfl⟩⟩
  ·subst h1
   rw [Yf] at h0
   exact absurd rfl h0
  ·rw [YI h1] at h0
   exact ⟨i-1,by omega,h0,YI h1,Or.inr ⟨h1,rfl⟩⟩
 refine ⟨fun _=>rfl,fun _=>⟨_,hrow,PL ix hc hk⟩,fun i hi=>?_,fun i hi h0=>?_,⟨fun i hi h0=>?_,fun i j hi hj h0 h1 e=>?_⟩⟩
 ·rcases Nat.lt_trichotomy i k with h1|h1|h1
  ·rw [YH h1,YH h1,YH h1]
   exact hold2 i (by omega)
  ·subst h1
   rw [Yf,Yf,Yf]
   exact fun j hj=>absurd hj (nlz _)
  ·rw [YI h1,YI h1,YI h1]
   exact hold2 (i-1) (by omega)
 ·obtain ⟨j,hj,h1,e,_⟩:=nz i hi h0
  rw [e]
  exact ltl (h.hlt j hj h1) hf.size
 ·obtain ⟨j,hj,h1,e,_⟩:=nz i hi h0
  rw [e]
  rcases hg with hg|hg
  ·rw [hg.2];exact h.ap.1 j hj h1
  ·have:=h.hlt j hj h1
   omega
 ·obtain ⟨p,hp,p1,ep,pc⟩:=nz i hi h0
  obtain ⟨q,hq,q1,eq,qc⟩:=nz j hj h1
  rw [ep,eq] at e
  have:=h.ap.2 p q hp hq p1 q1 e
  omega
theorem RcG.ackInsR {w Y:World} {r:Rc} {p:RcP} {B:Nat} (h:RcG w r p) (hbx:Bx w B (rcC r p.A)) (hB:∀ q,rbs p r q→q≠B) (hf:FrP (fun q=>0<r.an∧q=p.g6) w Y) {k:Nat} (hk:k≤r.an) {g':Nat} (hg:(0<r.an∧g'=p.g6)∨w.1.size≤g') {c:Nat→Value} (hc:∀ i,i<r.an→atAk c i (r.as_ i) (p.AA i) (p.AC i)) (ix:Int) (cap':Nat) (hrow:Rw Y (some ⟨g',0,none⟩) g' (r.an+1) cap' 2 (Jc c k 2 (akD ix))) :
  Bx (Y.setCell ⟨B,16,none⟩ (.slice (some ⟨g',0,none⟩) (r.an+1) cap')) B (rcC (ZC r k ix) (JG p k g' cap').A)∧RcG (Y.setCell ⟨B,16,none⟩ (.slice (some ⟨g',0,none⟩) (r.an+1) cap')) (ZC r k ix) (JG p k g' cap')∧(∀ q,rbs (JG p k g' cap') (ZC r k ix) q→rbs p r q∨w.1.size≤q)∧FrP (fun q=>q=B∨rb p r 6 q) w (Y.setCell ⟨B,16,none⟩ (.slice (some ⟨g',0,none⟩) (r.an+1) cap'))∧AkRm (Y.setCell ⟨B,16,none⟩ (.slice (some ⟨g',0,none⟩) (r.an+1) cap')) (ZC r k ix) (JG p k g' cap'):=by
 have r6:0<r.an→rb p r 6 p.g6:=fun h0=>Or.inl ⟨h0,rfl⟩
 have F1:FrP (fun q=>q=B∨(0<r.an∧q=p.g6)) w Y:=hf.mono (fun q hq=>Or.inr hq)
 have F:FrP (fun q=>q=B∨(0<r.an∧q=p.g6)) w (Y.setCell ⟨B,16,none⟩ (.slice (some ⟨g',0,none⟩) (r.an+1) cap')):=F1.setCell (p:=⟨B,16,none⟩) (Or.inl rfl) _
 have FY:FrP (fun q=>q=B) Y (Y.setCell ⟨B,16,none⟩ (.slice (some ⟨g',0,none⟩) (r.an+1) cap')):=(FrP.refl (fun q=>q=B) Y).setCell (p:=⟨B,16,none⟩) rfl _
 have rowF:=(hrow.rowF (by omega)).2
 have o:=h.at_.o6.insR hf hk hg hc ix rowF
 have hBl:=hbx.lt
 have nB:g'≠B:=by
  rcases hg with hg|hg
  ·rw [hg.2];exact hB _ ⟨6,by omega,r6 hg.1⟩
  ·omega
 have hblk:∀ q,blkH g' (r.an+1) (fun i=>(YF r.as_ k (ak0 ix) i).n) (YF p.Ab k 0) q→rb p r 6 q∨w.1.size≤q:=fun q hq=>by
  rcases hq with ⟨_,rfl⟩|⟨i,hi,h0,rfl⟩
  ·rcases hg with hg|hg
   ·rw [hg.2];exact Or.inl (r6 hg.1)
   ·exact Or.inr hg
  ·refine Or.inl (Or.inr ?_)
   dsimp only at h0
   rcases Nat.lt_trichotomy i k with h1|h1|h1
   ·rw [YH h1] at h0 ⊢
    exact ⟨i,by omega,h0,rfl⟩
   ·subst h1
    rw [Yf] at h0
    exact absurd rfl h0
   ·rw [YI h1] at h0 ⊢
    exact ⟨i-1,by omega,h0,rfl⟩
 have o2:=o.fr FY (fun q hq e=>by
  subst e
  rcases hblk q hq with h1|h1
  ·exact hB q ⟨6,by omega,h1⟩ rfl
  ·omega)
 obtain ⟨g1,g2⟩:=h.acks F (fun j q hj hq e=>by
  rcases e with e|e
  ·exact hB q ⟨j,by omega,hq⟩ e
  ·rw [e.2] at hq
   have:=h.at_.ap j 6 _ (by omega) (by omega) hq (r6 e.1)
   omega) cap' o2 hblk
 refine ⟨PE (hbx.frP hf (fun e=>hB _ ⟨6,by omega,r6 e.1⟩ e.2.symm)),g1,g2,F.mono (fun q hq=>?_),⟨hrow.le,fun h0=>absurd h0 (Nat.succ_ne_zero _),fun _=>Ye (hrow.room (ltl (Nat.succ_pos _) hrow.le)) FY nB⟩⟩
 rcases hq with hq|hq
 ·exact Or.inl hq
 ·exact Or.inr (hq.2▸r6 hq.1)
theorem TkAt.next {w w':World} {T B:Nat} {r r' s:Rc} {p p' ps:RcP} (h:TkAt w T B r p s ps) (hx:Bx w' B (rcC r' p'.A)) (hg:RcG w' r' p') (hf:FrP (fun q=>q=B∨rbs p r q) w w') (hr:∀ q,rbs p' r' q→rbs p r q∨w.1.size≤q) (hn:r'.num=r.num):TkAt w' T B r' p' s ps:=by
 have nT:¬(T=B∨rbs p r T):=fun e=>by
  rcases e with e|e
  ·exact h.ne e
  ·exact (h.ap T e).1 rfl
 have lT:=h.tx.lt
 have lB:=h.bx.lt
 refine ⟨h.tx.frP hf nT,hx,hg,h.sg.fr hf (fun q hq e=>?_),fun q hq=>?_,h.sp,h.ne,h.nm.trans hn.symm⟩
 ·rcases e with e|e
  ·exact (h.sp q hq).2 e
  ·exact (h.ap q e).2.2 hq
 ·rcases hr q hq with e|e
  ·exact h.ap q e
  ·exact ⟨by omega,by omega,fun hs=>by have:=h.sg.at_.lt q hs;omega⟩
theorem NY (r:Rc) (bs:Nat→Sl) (a:Nat):∀ k,(YS r bs a k).num=r.num
 | 0=>rfl
 | k+1=>NY r bs a k
theorem NW (r:Rc) (x:Int) (mn:Nat) (ms:Nat→Sl):(Je r x mn ms).num=r.num:=by
 unfold Je
 split
 ·exact NY _ _ _ _
 ·rfl
def Iv (r:Rc):Rc:=if r.tr=true∧r.sf.pr=r.bal then Je r r.num r.dk.n r.dk.s else r
def PitF (r:Rc) (p q:RcP):Prop:=if r.tr=true∧r.sf.pr=r.bal then (Iv r).ld=true→q.A.aa=none∧q.A.ac=0 else q=p
theorem PitF.no {r:Rc} {p:RcP} (h:¬(r.tr=true∧r.sf.pr=r.bal)):PitF r p p:=by unfold PitF;rw [if_neg h]
theorem PitF.yes {r:Rc} {p q:RcP} (h:r.tr=true∧r.sf.pr=r.bal) (a:(Iv r).ld=true→q.A.aa=none∧q.A.ac=0):PitF r p q:=by unfold PitF;rw [if_pos h];exact a
def TkR (F:RcP→Prop) (T B:Nat) (r:Rc) (p:RcP) (s:Rc) (ps:RcP) (r':Rc) (w:World) (e:Ending) (w':World):Prop:=
 e=.returned (.tuple #[])∧∃ p',TkAt w' T B r' p' s ps∧FrP (fun q=>q=B∨rbs p r q) w w'∧(∀ q,rbs p' r' q→rbs p r q∨w.1.size≤q)∧F p'
set_option maxRecDepth 100000 in
theorem Nf (T B:Nat) (r:Rc) (p:RcP) (s:Rc) (ps:RcP) (w:World) (h:TkAt w T B r p s ps) (hyc:p.A.yc=r.yn) (hbc:p.A.bc=r.bn) (hb0:r.bn=0→p.A.ba=none) (hda:r.dk.n=0→p.A.da=none) (hyn:r.yn≤999) (hasc:∀ i j,i<j→j<r.yn→r.ys i<r.ys j) (hbn:r.bn≤60) (hk0:0≤r.dk.kn) (hdn:r.dk.n≤60) (hld:r.tr=true→r.ld=false) :
  Calls Tryz.prog 110 #[.pointer (some ⟨T,0,none⟩)] w (TkR (PitF r p) T B r p s ps (Iv r) w):=by
 have H:=hid h
 have HP:=hid (fun (htr:r.tr=true) X (hb:Below w.1.size w X)=>Iu r p B r.num X (h.bx.below hb h.bx.lt) (h.g.grow hb) (fun q hq=>(h.ap q hq).2.1) hyc hbc hb0 hda hyn hasc hbn hk0 hdn (hld htr))
 have c12:w.cell? ⟨B,12,none⟩=some (.bool r.tr):=h.bx.cell 12
 clear h hyc hbc hb0 hda hasc hld
 cases htr:r.tr with
 | false=>
  rw [htr] at c12
  have HE:=hid (show Iv r=r from if_neg (fun e=>by rw [htr] at e;cases e.1))
  have HN:Hid (PitF r p p):=hid (PitF.no (fun e=>by rw [htr] at e;cases e.1))
  clear htr
  rw [HE.out]
  go_enter Tryz.func110,Tryz.ntmps110
  go_wp2
  refine Fh _ _ _ _ _ _ _ _ _ _ _ _ _ _ _ _ _ _ _ _ _ _ _ _ _ _ _ _ _ _ _ _ _ _ _ _ _ _ _ _ _ _ _ _ _ _ T B r p w H.out.tx.lt H.out.bx.lt (H.out.tx.cell 0) c12 (H.out.bx.cell 3) (H.out.bx.cell 13) _ ?_
  rintro t v3 X ⟨rfl,hb⟩
  have HBX:=hid hb
  clear hb c12
  go_wp2
  exact bodyPost_end (results_none rfl _ _ _) rfl ⟨rfl,p,H.out.grow HBX.out,FrP.of_below HBX.out,fun q hq=>Or.inl hq,HN.out⟩
 | true=>
  rw [htr] at c12
  have HTR:=hid htr
  by_cases hq:r.sf.pr=r.bal
  ·have HE:=hid (show Iv r=Je r r.num r.dk.n r.dk.s from if_pos ⟨htr,hq⟩)
   have HQ:=hid hq
   have he:(r.sf.pr==r.bal)=true:=by rw [hq];simp
   clear htr hq
   rw [HE.out]
   go_enter Tryz.func110,Tryz.ntmps110
   go_wp2
   refine Ou _ _ _ _ _ _ _ _ _ _ _ _ _ _ _ _ _ _ _ _ _ _ _ _ _ _ _ _ _ _ _ _ _ _ _ _ _ _ _ _ _ _ _ _ _ _ T B r p w H.out.tx.lt H.out.bx.lt (H.out.tx.cell 0) c12 (H.out.bx.cell 3) (H.out.bx.cell 13) _ ?_
   rintro t v3 X ⟨rfl,hb⟩
   rw [he]
   have HBX:=hid hb
   have K:=hid (H.out.grow hb)
   clear hb c12 he
   go_wp2
   refine pitReg1 _ _ _ _ _ _ _ _ _ _ _ _ _ _ _ _ _ _ _ _ _ _ _ _ _ _ _ _ _ _ _ _ _ _ _ _ _ _ _ _ _ _ _ _ _ _ T B r p (fun w'=>DoQ (fun q:RcP=>(Je r r.num r.dk.n r.dk.s).ld=true→q.A.aa=none∧q.A.ac=0) B r p (Je r r.num r.dk.n r.dk.s) w (.returned (.tuple #[])) w') X K.out.tx.lt K.out.bx.lt (K.out.bx.cell 0) (K.out.bx.cell 8) (K.out.tx.cell 0) (fun Y hb=>(HP.out HTR.out Y (HBX.out.trans (hb.mono HBX.out.size))).mono fun e w' hd=>?_) _ ?_
   ·have he:=hd.1
    subst he
    exact ⟨rfl,DoQ.then (FrP.of_below (HBX.out.trans (hb.mono HBX.out.size))) (fun q hq=>Or.inl hq) hd⟩
   ·rintro t v3 Z ⟨_,p',x2,g2,f2,s2,a2⟩
    exact bodyPost_end (results_none rfl _ _ _) rfl ⟨rfl,p',H.out.next x2 g2 f2 s2 (NW _ _ _ _),f2,s2,PitF.yes ⟨HTR.out,HQ.out⟩ (by rw [HE.out];exact a2)⟩
  ·have HE:=hid (show Iv r=r from if_neg (fun e=>hq e.2))
   have HN:Hid (PitF r p p):=hid (PitF.no (fun e=>hq e.2))
   have he:(r.sf.pr==r.bal)=false:=by simpa using hq
   clear htr hq
   rw [HE.out]
   go_enter Tryz.func110,Tryz.ntmps110
   go_wp2
   refine Ou _ _ _ _ _ _ _ _ _ _ _ _ _ _ _ _ _ _ _ _ _ _ _ _ _ _ _ _ _ _ _ _ _ _ _ _ _ _ _ _ _ _ _ _ _ _ T B r p w H.out.tx.lt H.out.bx.lt (H.out.tx.cell 0) c12 (H.out.bx.cell 3) (H.out.bx.cell 13) _ ?_
   rintro t v3 X ⟨rfl,hb⟩
   rw [he]
   have HBX:=hid hb
   clear hb c12 he
   go_wp2
   exact bodyPost_end (results_none rfl _ _ _) rfl ⟨rfl,p,H.out.grow HBX.out,FrP.of_below HBX.out,fun q hq=>Or.inl hq,HN.out⟩
theorem Py {P:Program} (w:World) (t tn ty e:TypeId) (z bytes:Nat) (zv:Value) (ht:P.underlying t=some (.slice e)) (htn:P.underlying tn=some (.int .i64)) (hinf:(P.info? e).map (fun i=>(i.zero,i.size,i.bytes))=some (some zv,z,bytes)) (hz:0<z) (hzv:zv.cells.size=z)
  (lo hi:Nat) (ad:Option Addr) (i cap k:Nat) (c:Nat→Value) (hc:SrcRow w lo hi ad (i*z) c) (hk:0<k) (hg:cap<i+k) (h63:((i+k:Nat):Int)≤9223372036854775807) (hb:(i+k)*bytes≤140737488355328) :
  ∃ cap' w',(Builtin.append_ #[t,tn] ty #[.slice ad i cap,.int .i64 k]).run P w=.ok (.slice (some ⟨w.1.size,0,none⟩) (i+k) cap') w'∧i+k≤cap'∧(cap':Int)≤9223372036854775807∧Room w' w.1.size (cap'*z)∧(∀ j,j<i*z→w'.cell? ⟨w.1.size,j,none⟩=some (c j))∧Below w.1.size w w':=by
 obtain ⟨i0,hi0,hz0,hz1,hz2⟩:=info_parts hinf
 have hkb:k*bytes≤(i+k)*bytes:=Nat.mul_le_mul_right _ (by omega)
 have hrun:=Lib.run_append_grow_zeros (P:=P) w t tn ty e i0 zv .i64 .i64 ht htn hi0 hz0 ad i cap (Zg (i*z) c) (by rw [hz1];exact hc.drew.cells hz) k hk (by rw [hz1];exact hz) hg h63 (by rw [hz2];omega) (growslice_fits hg (by rw [hz2];exact hb))
 have hcg:=grownCap_ge w (i+k) cap e
 have hcm:=grownCap_le_maxLen w (i+k) cap e (by unfold maxLen;omega)
 obtain ⟨ROW,hROW⟩:∃ ROW:Array Value,ROW=(Zg (i*z) c).toArray ++ Builtin.zeroCells zv.cells k ++ Builtin.zeroCells zv.cells (grownCap w (i+k) cap e-(i+k)):=⟨_,rfl⟩
 rw [←hROW] at hrun
 have hs:grownCap w (i+k) cap e*z≤ROW.size:=by
  rw [hROW,Array.size_append,Array.size_append,size_zeroCells,size_zeroCells,hzv,List.size_toArray,Zj,←Nat.add_mul,←Nat.add_mul]
  exact Nat.mul_le_mul_right z (by omega)
 have hcell:∀ j,(w.drew.alloc (.cells ROW e)).cell? ⟨w.1.size,j,none⟩=ROW[j]?:=fun j=>World.cell?_alloc_new w.drew ROW e j
 refine ⟨_,_,hrun,hcg,by unfold maxLen at hcm;omega,⟨fun j hj=>?_,fun j=>?_,?_⟩,fun j hj=>?_,((br _ _).drew).alloc (lrf _) _⟩
 ·rw [hcell,Array.getElem?_eq_getElem (by omega)]
  exact ⟨_,rfl⟩
 ·have:=World.frozen?_alloc_mark w.drew ROW e 0 0 j
  rw [show w.drew.1.size=w.1.size from rfl] at this
  simpa using this
 ·rw [World.size_alloc];exact Nat.lt_succ_self _
 ·rw [hcell,hROW,Array.append_assoc,Array.getElem?_append_left (by simp [Zj,hj]),List.getElem?_toArray,List.getElem?_eq_getElem (by rw [Zj];exact hj),ZG]
theorem Room.le {w:World} {g m n:Nat} (h:Room w g m) (hn:n≤m):Room w g n:=⟨fun j hj=>h.has j (by omega),h.free,h.lt⟩
theorem Oh {w:World} {b o:Nat} {v:Value} (h:w.cell? ⟨b,o,none⟩=some v):∃ t k,w.shape? b=some (t,k)∧k≠0:=by
 unfold World.cell? at h
 unfold World.shape?
 split at h
 ·rename_i c e fz hh
  simp only [hh]
  refine ⟨_,_,rfl,fun e0=>?_⟩
  simp at h
  have:c.size=0:=e0
  obtain ⟨h1,_⟩:=Array.getElem?_eq_some_iff.1 h
  omega
 ·cases h
theorem FJ {P:Program} (w:World) (t ty e:TypeId) (z:Nat) (ht:P.underlying t=some (.slice e)) (hsz:(P.info? e).map (·.size)=some z) (g o M dl dc:Nat) (hr:Room w g M) (lo hi b off sl m sc:Nat) (d:Nat→Value) (hd:SrcRow w lo hi (some ⟨b,off,none⟩) (m*z) d) (hm:Nat.min sl dl=m) (ho:o+m*z≤M) :
  (Builtin.copy_ #[t,t] ty #[.slice (some ⟨g,o,none⟩) dl dc,.slice (some ⟨b,off,none⟩) sl sc]).run P w=.ok (goInt m) (w.setCells g o (Zg (m*z) d)):=by
 have h:=Yd (P:=P) w t t ty e g o dl dc ⟨b,off,none⟩ sl sc z (Zg (m*z) d) ht hsz (by rw [Zj,hm]) (fun j v hv=>by
   obtain ⟨h1,rfl⟩:=ZP hv
   obtain ⟨b',off',e1,_,_,e4⟩:=hd.at_ j h1
   cases e1
   rw [show ((⟨b,off,none⟩:Addr).add j)=⟨b,off+j,none⟩ by simp [Addr.add]]
   exact e4) (fun j hj=>by
   rw [Zj] at hj
   obtain ⟨u,hu⟩:=hr.has (o+j) (by omega)
   rw [hu];rfl) (fun j _=>hr.free _) (fun u hu=>by
   obtain ⟨j,hj,rfl⟩:=List.mem_map.1 hu
   exact hd.one j (by simpa using hj))
 rw [hm] at h
 exact h
theorem Gh {P:Prop} (h:P:=by
  go_enter Tryz.func169,Tryz.ntmps169
  go_wp2_with ((with_reducible show wpList _ _ _ (⟨some 25,_,_,_,_,_⟩::_) _ _);go_must (obtain ⟨ad',cap',g',w',hrun,hrow,hf,hor⟩:=HRUN.out;refine Zq rfl _ _ 36 36 rfl _ _ _ _ rfl rfl hrun ?_;have HR:=hid hrow;have HF:=hid hf;have HO:=hid hor;clear hrun hrow hf hor))
  go_ret
  exact ⟨_,g',_,rfl,⟨HR.out.addr,HR.out.le,HR.out.room,fun j hj=>by rw [OL _ _ _ _ _ hj];exact HR.out.cell j hj⟩,HF.out,HO.out⟩):P:=h
set_option maxRecDepth 100000 in
theorem NQ (n cap:Nat) (hn:n≤1000) (c d:Nat→Value) (ad:Option Addr) (g vb:Nat) (w:World) (h:Rw w ad g n cap 2 c) (h1:∀ j,j<n*2→(c j).oneCell'=true) (hd:SrcRow w vb (vb+1) (some ⟨vb,0,none⟩) (1*2) d) :
  Calls Tryz.prog 169 #[.slice ad n cap,.int .i64 n,.slice (some ⟨vb,0,none⟩) 1 1] w fun e w'=>∃ ad' g' cap',e=.returned (.slice ad' (n+1) cap')∧Rw w' ad' g' (n+1) cap' 2 (Jc c n 2 d)∧FrP (fun q=>0<cap∧q=g) w w'∧((0<cap∧g'=g)∨w.1.size≤g'):=by
 have HRUN:=hid (KA (P:=Tryz.prog) w 36 36 108 2 32 (.agg #[.int .i64 0,.slice none 0 0]) Tryz.underlying36 Tryz.info108 (by omega) rfl ad g n cap c h h1 vb (vb+1) (some ⟨vb,0,none⟩) 1 1 d hd (by omega) (by omega) (by omega))
 have hle:=h.le
 have HA:=hid h.addr
 clear h h1 hd
 by_cases hcn:cap=n
 ·cases ad with
  | none=>
   have h0:n=0:=by
    rcases Nat.eq_zero_or_pos n with h0|h0
    ·exact h0
    ·have:=HA.out (by omega)
     cases this
   subst h0
   subst hcn
   exact Gh
  | some a=>
   subst hcn
   exact Gh
 ·have had:=HA.out (by omega)
  subst had
  exact Gh
def OJ (b off g n u cap:Nat) (i:Nat) (v:Value) (_X:World):Prop:=
 match i with
 | 0=>v=.slice (some ⟨g,0,none⟩) (n+1) cap
 | 1=>v=.int .i64 u
 | 2=>v=.int .i64 1
 | 3=>v=.int .i64 ((u:Int)+1)
 | 4=>v=.slice (some ⟨g,(u+1)*2,none⟩) (n-u) (cap-(u+1))
 | 5=>v=.slice (some ⟨b,off,none⟩) n n
 | 6=>v=.int .i64 u
 | 7=>v=.slice (some ⟨b,off+u*2,none⟩) (n-u) (n-u)
 | _=>True
theorem US {P:Prop} (h:P:=by
  have h:=hK _ X rfl (br _ _)
  refine Zi rfl rfl ?_
  clear hK hg
  go_simp
  simpa [updT] using h):P:=h
theorem apVd2 {P:Prop} (h:P:=by
  have e0:t 0=.slice (some ⟨g,0,none⟩) (n+1) cap:=hg 0 (Wt rfl)
  have e3:t 3=.int .i64 ((u:Int)+1):=hg 3 (Wt rfl)
  have q1:¬(cap=u+1):=by omega
  have q2:((u:Int)+1).toNat=u+1:=by omega
  have q3:n+1-(u+1)=n-u:=by omega
  have h:=hK _ X rfl (br _ _)
  refine Zi rfl rfl ?_
  clear hK hg
  simp only [e0,e3]
  go_simp
  rw [if_pos ⟨by omega,by omega⟩,Oper.upon_value]
  go_simp
  simpa [updT,e0,e3] using h):P:=h
theorem apVd3 {P:Prop} (h:P:=by
  have e1:t 1=.int .i64 u:=hg 1 (Wt rfl)
  have e2:t 2=.int .i64 1:=hg 2 (Wt rfl)
  have h:=hK _ X rfl (br _ _)
  refine Zi rfl rfl ?_
  clear hK hg
  have hw:IntKind.i64.wrap ((u:Int)+1)=(u:Int)+1:=by rw [IntKind.wrap_i64];omega
  simp only [e1,e2]
  go_simp
  simpa [updT,e1,e2,hw] using h):P:=h
set_option maxRecDepth 100000 in
theorem Pr (p2 p3 p4 p5 p6 p8 ze zc za zd zi zj zg zh zn zm zo zp zq yb yf ye z9 yd z8 z0 zu zy zt yg yi yj yh yk ym yo yr yt xo jo jm jp jw ju yp yq yv yw xx xy xc yu yx xb xd xg xk xe xh js x9 jk jj ji jl xw yz xi xm xa xf xj xl yy xn xp xq xr xu xt jt jr jq:Value) (w0 w1 w2 w3 w4 w5 w6 w7:Value) (b off g n u cap:Nat) (W:World) (lo hi:Nat) (c d:Nat→Value) (hin:u<n) (hn:n≤1000) (hcap:n+1≤cap) (_hcm:(cap:Int)≤9223372036854775807) (hhi:hi≤W.1.size) (hr:Room W g (cap*2)) (_hgh:hi≤g) (hc:∀ j,j<(u+1)*2→W.cell? ⟨g,j,none⟩=some (Jc c u 2 d j)) (hs:SrcRow W lo hi (some ⟨b,off,none⟩) (n*2) c) (Q:Exit→Act→World→Prop) (hQ:∀ (t:Nat→Value) (v3:Value) X,RowF X g ((n+1)*2) (Jc c u 2 d)∧FrP (fun q=>q=g) W X∧Room X g (cap*2)→Q .normal ⟨#[.slice (some ⟨b,off,none⟩) n n,.int .i64 u,p2,p3,p4,p5,p6,.int .i64 1,p8,.slice (some ⟨g,0,none⟩) (n+1) cap,ze,zc,za,zd,zi,zj,zg,zh,zn,zm,zo,zp,zq,yb,yf,ye,z9,yd,z8,z0,zu,zy,zt,yg,yi,yj,yh,yk,ym,yo,yr,yt,xo,jo,jm,jp,t 0,t 1,t 2,t 3,t 4,t 5,t 6,t 7,v3,ju,yp,yq,yv,yw,xx,xy,xc,yu,yx,xb,xd,xg,xk,xe,xh,js,x9,jk,jj,ji,jl,xw,yz,xi,xm,xa,xf,xj,xl,yy,xn,xp,xq,xr,xu,xt,jt,jr,jq],[]⟩ X) :
  Code.wp Tryz.prog (Code.region 11 #[⟨some 46,.move (.tmp 9),36,Gu,#[],none⟩,⟨some 47,.move (.tmp 1),3,Gu,#[],none⟩,⟨some 48,.move (.tmp 7),3,Gu,#[],none⟩,⟨some 49,.binOp .add 3 (.tmp 47) (.tmp 48) 3,3,Gu,#[⟨1,.data⟩,⟨2,.data⟩],none⟩,⟨some 50,.slice 36 (.tmp 46) (some (.tmp 49)) none none,36,Gu,#[⟨0,.data⟩,⟨3,.data⟩],none⟩,⟨some 51,.move (.tmp 0),36,Gu,#[],none⟩,⟨some 52,.move (.tmp 1),3,Gu,#[],none⟩,⟨some 53,.slice 36 (.tmp 51) (some (.tmp 52)) none none,36,Gu,#[⟨5,.data⟩,⟨6,.data⟩],none⟩,⟨some 54,.call ⟨.builtin .copy,#[.tmp 50,.tmp 53],#[36,36]⟩,3,Gu,#[⟨4,.data⟩,⟨7,.data⟩],none⟩] true) Q ⟨#[.slice (some ⟨b,off,none⟩) n n,.int .i64 u,p2,p3,p4,p5,p6,.int .i64 1,p8,.slice (some ⟨g,0,none⟩) (n+1) cap,ze,zc,za,zd,zi,zj,zg,zh,zn,zm,zo,zp,zq,yb,yf,ye,z9,yd,z8,z0,zu,zy,zt,yg,yi,yj,yh,yk,ym,yo,yr,yt,xo,jo,jm,jp,w0,w1,w2,w3,w4,w5,w6,w7,jw,ju,yp,yq,yv,yw,xx,xy,xc,yu,yx,xb,xd,xg,xk,xe,xh,js,x9,jk,jj,ji,jl,xw,yz,xi,xm,xa,xf,xj,xl,yy,xn,xp,xq,xr,xu,xt,jt,jr,jq],[]⟩ W:=by
 refine ZL (by kernel_rfl) 8 (fun t:Nat→Value=>#[.slice (some ⟨b,off,none⟩) n n,.int .i64 u,p2,p3,p4,p5,p6,.int .i64 1,p8,.slice (some ⟨g,0,none⟩) (n+1) cap,ze,zc,za,zd,zi,zj,zg,zh,zn,zm,zo,zp,zq,yb,yf,ye,z9,yd,z8,z0,zu,zy,zt,yg,yi,yj,yh,yk,ym,yo,yr,yt,xo,jo,jm,jp,t 0,t 1,t 2,t 3,t 4,t 5,t 6,t 7,jw,ju,yp,yq,yv,yw,xx,xy,xc,yu,yx,xb,xd,xg,xk,xe,xh,js,x9,jk,jj,ji,jl,xw,yz,xi,xm,xa,xf,xj,xl,yy,xn,xp,xq,xr,xu,xt,jt,jr,jq]) (fun i=>match i with|0=>w0|1=>w1|2=>w2|3=>w3|4=>w4|5=>w5|6=>w6|_=>w7) (OJ b off g n u cap) (fun a X=>∃ (t:Nat→Value) (v3:Value),a=⟨#[.slice (some ⟨b,off,none⟩) n n,.int .i64 u,p2,p3,p4,p5,p6,.int .i64 1,p8,.slice (some ⟨g,0,none⟩) (n+1) cap,ze,zc,za,zd,zi,zj,zg,zh,zn,zm,zo,zp,zq,yb,yf,ye,z9,yd,z8,z0,zu,zy,zt,yg,yi,yj,yh,yk,ym,yo,yr,yt,xo,jo,jm,jp,t 0,t 1,t 2,t 3,t 4,t 5,t 6,t 7,v3,ju,yp,yq,yv,yw,xx,xy,xc,yu,yx,xb,xd,xg,xk,xe,xh,js,x9,jk,jj,ji,jl,xw,yz,xi,xm,xa,xf,xj,xl,yy,xn,xp,xq,xr,xu,xt,jt,jr,jq],[]⟩∧RowF X g ((n+1)*2) (Jc c u 2 d)∧FrP (fun q=>q=g) W X∧Room X g (cap*2)) (by kernel_rfl) (by kernel_rfl) (by kernel_rfl) ?_ rfl ?_ ?_ ?_
 ·exact fun _ _ _ _ _ h _=>h
 ·intro i hi t X K hb hg hK
  rcases (show i=0∨i=1∨i=2∨i=3∨i=4∨i=5∨i=6∨i=7 by omega) with rfl|rfl|rfl|rfl|rfl|rfl|rfl|rfl
  ·exact US
  ·exact US
  ·exact US
  ·exact apVd3
  ·exact apVd2
  ·exact US
  ·exact US
  ·have e5:t 5=.slice (some ⟨b,off,none⟩) n n:=hg 5 (Wt rfl)
   have e6:t 6=.int .i64 u:=hg 6 (Wt rfl)
   have q1:¬(n=u):=by omega
   have h:=hK _ X rfl (br _ _)
   refine Zi rfl rfl ?_
   clear hK hg
   simp only [e5,e6]
   go_simp
   rw [if_pos (by omega),Oper.upon_value]
   go_simp
   simpa [updT,e5,e6] using h
 ·intro t X K hb hg hK
  have e4:t 4=.slice (some ⟨g,(u+1)*2,none⟩) (n-u) (cap-(u+1)):=hg 4 (by omega)
  have e7:t 7=.slice (some ⟨b,off+u*2,none⟩) (n-u) (n-u):=hg 7 (by omega)
  have hm:(n-u)*2=n*2-u*2:=Nat.sub_mul _ _ _
  have src:SrcRow X lo hi (some ⟨b,off+u*2,none⟩) ((n-u)*2) (fun j=>c (u*2+j)):=by rw [hm];exact (hs.belowR hb hhi).drop (by omega)
  have hgl:=hr.lt
  have rX:Room X g (cap*2):=hr.below hb hgl
  have hrun:=Kh (P:=Tryz.prog) X 36 3 108 2 Tryz.underlying36 Ij g ((u+1)*2) (cap*2) (n-u) (cap-(u+1)) rX lo hi b (off+u*2) (n-u) (n-u) _ src (lrf _) (by omega)
  rw [←e4,←e7] at hrun
  refine Zi rfl rfl ?_
  refine KC _ _ 36 36 rfl _ _ _ _ rfl rfl hrun ?_
  exact hK _ _ ⟨t,_,rfl,OH (by omega) (rX.le (by omega)) (fun j hj=>(hb.cell (p:=⟨g,j,none⟩) hgl).trans (hc j hj)),(FrP.of_below hb).trans (FrP.of_fr (Zx g _ _ X) (fun k h1 h2=>by omega)),Ue rX _ (by omega)⟩
 ·rintro a X ⟨t,v3,rfl,hp⟩
  exact hQ t v3 X hp
set_option maxRecDepth 100000 in
theorem NP (n i:Nat) (hi:i<n) (hn:n≤1000) (c d:Nat→Value) (b off vb:Nat) (w:World) (lo hb:Nat) (hhi:hb≤w.1.size) (hv:vb<w.1.size) (hc:SrcRow w lo hb (some ⟨b,off,none⟩) (n*2) c) (hd:SrcRow w vb (vb+1) (some ⟨vb,0,none⟩) (1*2) d) :
  Calls Tryz.prog 169 #[.slice (some ⟨b,off,none⟩) n n,.int .i64 i,.slice (some ⟨vb,0,none⟩) 1 1] w fun e w'=>∃ g cap,e=.returned (.slice (some ⟨g,0,none⟩) (n+1) cap)∧w.1.size≤g∧Rw w' (some ⟨g,0,none⟩) g (n+1) cap 2 (Jc c i 2 d)∧Below w.1.size w w':=by
 have HC:=hid hc
 have HD:=hid hd
 clear hc hd
 have hik:i+(n+1-i)=n+1:=by omega
 obtain ⟨cap,w1,hrun,hcap,hcm,hroom,hcell,hb1⟩:=Py (P:=Tryz.prog) w 36 3 36 108 2 32 (.agg #[.int .i64 0,.slice none 0 0]) Tryz.underlying36 Tryz.underlying3 Tryz.info108 (by omega) rfl lo hb (some ⟨b,off,none⟩) i n (n+1-i) c (HC.out.take (by omega)) (by omega) (by omega) (by omega) (by omega)
 rw [hik] at hrun hcap
 rw [show ((n+1-i:Nat):Int)=(n:Int)+1-i by omega] at hrun
 have HRUN:=hid hrun
 have z1:=hb1.size
 have hgl:=hroom.lt
 have src1:=HD.out.belowR hb1 (by omega)
 have hcp:=Kh (P:=Tryz.prog) w1 36 3 108 2 Tryz.underlying36 Ij w.1.size (i*2) (cap*2) (n+1-i) (cap-i) hroom vb (vb+1) vb 0 1 1 d src1 (by omega) (by omega)
 have HCP:=hid hcp
 have R2:Room (w1.setCells w.1.size (i*2) (Zg (1*2) d)) w.1.size (cap*2):=Ue hroom d (by omega)
 have C2:∀ j,j<(i+1)*2→(w1.setCells w.1.size (i*2) (Zg (1*2) d)).cell? ⟨w.1.size,j,none⟩=some (Jc c i 2 d j):=fun j hj=>by
  unfold Jc
  by_cases h1:j<i*2
  ·rw [if_pos h1,KR _ (Or.inl h1)]
   exact hcell j h1
  ·rw [if_neg h1,if_pos (by omega)]
   obtain ⟨q,rfl⟩:∃ q,j=i*2+q:=⟨j-i*2,by omega⟩
   rw [Nc hroom d (by omega) (by omega),Nat.add_sub_cancel_left]
 have F2:FrP (fun q=>q=w.1.size) w1 (w1.setCells w.1.size (i*2) (Zg (1*2) d)):=FrP.of_fr (Zx w.1.size _ _ w1) (fun k h1 h2=>by omega)
 have S2:SrcRow (w1.setCells w.1.size (i*2) (Zg (1*2) d)) lo hb (some ⟨b,off,none⟩) (n*2) c:=(HC.out.belowR hb1 hhi).frR F2 (fun k _ h2=>by omega) (by omega)
 have HC2:=hid C2
 have HS2:=hid S2
 have HR2:=hid R2
 have B2:Below w.1.size w (w1.setCells w.1.size (i*2) (Zg (1*2) d)):=hb1.trans (F2.below (fun k hk h=>by omega) (by omega))
 have HB2:=hid B2
 obtain ⟨W2,hW2⟩:∃ W2,w1.setCells w.1.size (i*2) (Zg (1*2) d)=W2:=⟨_,rfl⟩
 rw [hW2] at HCP HC2 HS2 HR2 HB2
 have zz:=HB2.out.size
 clear hrun hcp R2 C2 S2 B2 F2 hcell src1 HC HD hroom hW2
 have q1:¬(cap=i):=by omega
 have q2:¬(n=i):=by omega
 have q3:¬(i=n):=by omega
 go_enter Tryz.func169,Tryz.ntmps169
 go_wp2_with (first
  | ((with_reducible show wpList _ _ _ (⟨some 40,_,_,_,_,_⟩::_) _ _);go_must (refine Zq rfl _ _ 36 3 rfl _ _ _ _ rfl rfl HRUN.out ?_))
  | ((with_reducible show wpList _ _ _ (⟨some 45,_,_,_,_,_⟩::_) _ _);go_must (refine Jd rfl _ _ 36 36 rfl _ _ _ _ (by first|rfl|(simp only [Nat.mul_one];rfl)) rfl HCP.out ?_)))
 refine Pr _ _ _ _ _ _ _ _ _ _ _ _ _ _ _ _ _ _ _ _ _ _ _ _ _ _ _ _ _ _ _ _ _ _ _ _ _ _ _ _ _ _ _ _ _ _ _ _ _ _ _ _ _ _ _ _ _ _ _ _ _ _ _ _ _ _ _ _ _ _ _ _ _ _ _ _ _ _ _ _ _ _ _ _ _ _ _ _ _ _ _ b off w.1.size n i cap W2 lo hb c d hi hn hcap hcm (by omega) HR2.out hhi HC2.out HS2.out _ ?_
 rintro t v3 X ⟨hrow,hfr,hrm⟩
 have HROW:=hid hrow
 have HRM:=hid hrm
 have HFR:=hid (HB2.out.trans (hfr.below (fun k hk h=>by omega) (by omega)))
 clear hrow hfr hrm
 go_wp2
 go_ret
 exact ⟨_,_,rfl,lrf _,⟨fun _=>rfl,hcap,fun _=>HRM.out,HROW.out.cell⟩,HFR.out⟩
def OI (g n u cap:Nat) (i:Nat) (v:Value) (_X:World):Prop:=
 match i with
 | 0=>v=.slice (some ⟨g,0,none⟩) (n+1) cap
 | 1=>v=.int .i64 u
 | 2=>v=.int .i64 1
 | 3=>v=.int .i64 ((u:Int)+1)
 | 4=>v=.slice (some ⟨g,(u+1)*2,none⟩) (n-u) (cap-(u+1))
 | 5=>v=.slice (some ⟨g,0,none⟩) (n+1) cap
 | 6=>v=.int .i64 u
 | 7=>v=.slice (some ⟨g,u*2,none⟩) (n+1-u) (cap-u)
 | _=>True
set_option maxRecDepth 100000 in
theorem Pq (p2 p3 p4 p5 p6 p8 p9 ze zc za zd zi zj zg zh zn zm zo zp zq yb yf ye z9 yd z8 z0 zu zy zt yg yi yj yh yk ym yo yr yt xo jo jm jp j7 kj ko j8 j5 j9 kg kd jw ju yp yq yv yw xx xy xc yu yx xb xd xg xk xw yz xi xm xa xf xj xl yy xn xp xq xr xu xt jt jr jq:Value) (w0 w1 w2 w3 w4 w5 w6 w7:Value) (g n u cap:Nat) (W:World) (c:Nat→Value) (hin:u<n) (hn:n≤1000) (hcap:n+1≤cap) (hr:Room W g (cap*2)) (hc:∀ j,j<n*2→W.cell? ⟨g,j,none⟩=some (c j)) (h1:∀ j,j<n*2→(c j).oneCell'=true) (Q:Exit→Act→World→Prop) (hQ:∀ (t:Nat→Value) (v3:Value) X,(∀ j,j<u*2→X.cell? ⟨g,j,none⟩=some (c j))∧(∀ j,(u+1)*2≤j→j<(n+1)*2→X.cell? ⟨g,j,none⟩=some (c (j-2)))∧FrP (fun q=>q=g) W X∧Room X g (cap*2)→Q .normal ⟨#[.slice (some ⟨g,0,none⟩) (n+1) cap,.int .i64 u,p2,p3,p4,p5,p6,.int .i64 1,p8,p9,ze,zc,za,zd,zi,zj,zg,zh,zn,zm,zo,zp,zq,yb,yf,ye,z9,yd,z8,z0,zu,zy,zt,yg,yi,yj,yh,yk,ym,yo,yr,yt,xo,jo,jm,jp,j7,kj,ko,j8,j5,j9,kg,kd,jw,ju,yp,yq,yv,yw,xx,xy,xc,yu,yx,xb,xd,xg,xk,t 0,t 1,t 2,t 3,t 4,t 5,t 6,t 7,v3,yz,xi,xm,xa,xf,xj,xl,yy,xn,xp,xq,xr,xu,xt,jt,jr,jq],[]⟩ X) :
  Code.wp Tryz.prog (Code.region 15 #[⟨some 69,.move (.tmp 0),36,GZ,#[],none⟩,⟨some 70,.move (.tmp 1),3,GZ,#[],none⟩,⟨some 71,.move (.tmp 7),3,GZ,#[],none⟩,⟨some 72,.binOp .add 3 (.tmp 70) (.tmp 71) 3,3,GZ,#[⟨1,.data⟩,⟨2,.data⟩],none⟩,⟨some 73,.slice 36 (.tmp 69) (some (.tmp 72)) none none,36,GZ,#[⟨0,.data⟩,⟨3,.data⟩],none⟩,⟨some 74,.move (.tmp 0),36,GZ,#[],none⟩,⟨some 75,.move (.tmp 1),3,GZ,#[],none⟩,⟨some 76,.slice 36 (.tmp 74) (some (.tmp 75)) none none,36,GZ,#[⟨5,.data⟩,⟨6,.data⟩],none⟩,⟨some 77,.call ⟨.builtin .copy,#[.tmp 73,.tmp 76],#[36,36]⟩,3,GZ,#[⟨4,.data⟩,⟨7,.data⟩],none⟩] true) Q ⟨#[.slice (some ⟨g,0,none⟩) (n+1) cap,.int .i64 u,p2,p3,p4,p5,p6,.int .i64 1,p8,p9,ze,zc,za,zd,zi,zj,zg,zh,zn,zm,zo,zp,zq,yb,yf,ye,z9,yd,z8,z0,zu,zy,zt,yg,yi,yj,yh,yk,ym,yo,yr,yt,xo,jo,jm,jp,j7,kj,ko,j8,j5,j9,kg,kd,jw,ju,yp,yq,yv,yw,xx,xy,xc,yu,yx,xb,xd,xg,xk,w0,w1,w2,w3,w4,w5,w6,w7,xw,yz,xi,xm,xa,xf,xj,xl,yy,xn,xp,xq,xr,xu,xt,jt,jr,jq],[]⟩ W:=by
 refine ZL (by kernel_rfl) 8 (fun t:Nat→Value=>#[.slice (some ⟨g,0,none⟩) (n+1) cap,.int .i64 u,p2,p3,p4,p5,p6,.int .i64 1,p8,p9,ze,zc,za,zd,zi,zj,zg,zh,zn,zm,zo,zp,zq,yb,yf,ye,z9,yd,z8,z0,zu,zy,zt,yg,yi,yj,yh,yk,ym,yo,yr,yt,xo,jo,jm,jp,j7,kj,ko,j8,j5,j9,kg,kd,jw,ju,yp,yq,yv,yw,xx,xy,xc,yu,yx,xb,xd,xg,xk,t 0,t 1,t 2,t 3,t 4,t 5,t 6,t 7,xw,yz,xi,xm,xa,xf,xj,xl,yy,xn,xp,xq,xr,xu,xt,jt,jr,jq]) (fun i=>match i with|0=>w0|1=>w1|2=>w2|3=>w3|4=>w4|5=>w5|6=>w6|_=>w7) (OI g n u cap) (fun a X=>∃ (t:Nat→Value) (v3:Value),a=⟨#[.slice (some ⟨g,0,none⟩) (n+1) cap,.int .i64 u,p2,p3,p4,p5,p6,.int .i64 1,p8,p9,ze,zc,za,zd,zi,zj,zg,zh,zn,zm,zo,zp,zq,yb,yf,ye,z9,yd,z8,z0,zu,zy,zt,yg,yi,yj,yh,yk,ym,yo,yr,yt,xo,jo,jm,jp,j7,kj,ko,j8,j5,j9,kg,kd,jw,ju,yp,yq,yv,yw,xx,xy,xc,yu,yx,xb,xd,xg,xk,t 0,t 1,t 2,t 3,t 4,t 5,t 6,t 7,v3,yz,xi,xm,xa,xf,xj,xl,yy,xn,xp,xq,xr,xu,xt,jt,jr,jq],[]⟩∧(∀ j,j<u*2→X.cell? ⟨g,j,none⟩=some (c j))∧(∀ j,(u+1)*2≤j→j<(n+1)*2→X.cell? ⟨g,j,none⟩=some (c (j-2)))∧FrP (fun q=>q=g) W X∧Room X g (cap*2)) (by kernel_rfl) (by kernel_rfl) (by kernel_rfl) ?_ rfl ?_ ?_ ?_
 ·exact fun _ _ _ _ _ h _=>h
 ·intro i hi t X K hb hg hK
  rcases (show i=0∨i=1∨i=2∨i=3∨i=4∨i=5∨i=6∨i=7 by omega) with rfl|rfl|rfl|rfl|rfl|rfl|rfl|rfl
  ·exact US
  ·exact US
  ·exact US
  ·exact apVd3
  ·exact apVd2
  ·exact US
  ·exact US
  ·have e5:t 5=.slice (some ⟨g,0,none⟩) (n+1) cap:=hg 5 (Wt rfl)
   have e6:t 6=.int .i64 u:=hg 6 (Wt rfl)
   have q1:¬(cap=u):=by omega
   have h:=hK _ X rfl (br _ _)
   refine Zi rfl rfl ?_
   clear hK hg
   simp only [e5,e6]
   go_simp
   rw [if_pos (by omega),Oper.upon_value]
   go_simp
   simpa [updT,e5,e6] using h
 ·intro t X K hb hg hK
  have e4:t 4=.slice (some ⟨g,(u+1)*2,none⟩) (n-u) (cap-(u+1)):=hg 4 (by omega)
  have e7:t 7=.slice (some ⟨g,u*2,none⟩) (n+1-u) (cap-u):=hg 7 (by omega)
  have hgl:=hr.lt
  have rX:Room X g (cap*2):=hr.below hb hgl
  have cX:∀ j,j<n*2→X.cell? ⟨g,j,none⟩=some (c j):=fun j hj=>(hb.cell (p:=⟨g,j,none⟩) hgl).trans (hc j hj)
  have src:SrcRow X g (g+1) (some ⟨g,u*2,none⟩) ((n-u)*2) (fun j=>c (u*2+j)):=⟨fun j hj=>⟨g,u*2,rfl,lrf _,Nat.lt_succ_self _,cX _ (by omega)⟩,fun j hj=>h1 _ (by omega)⟩
  have hmin:Nat.min (n+1-u) (n-u)=n-u:=Nat.min_eq_right (by omega)
  have hrun:=FJ (P:=Tryz.prog) X 36 3 108 2 Tryz.underlying36 Ij g ((u+1)*2) (cap*2) (n-u) (cap-(u+1)) rX g (g+1) g (u*2) (n+1-u) (n-u) (cap-u) _ src hmin (by omega)
  rw [←e4,←e7] at hrun
  refine Zi rfl rfl ?_
  refine KC _ _ 36 36 rfl _ _ _ _ rfl rfl hrun ?_
  exact hK _ _ ⟨t,_,rfl,fun j hj=>by rw [KR _ (Or.inl (by omega))];exact cX j (by omega),fun j hj1 hj2=>by obtain ⟨q,rfl⟩:∃ q,j=(u+1)*2+q:=⟨j-(u+1)*2,by omega⟩;rw [Nc rX _ (by omega) (by omega)];exact congrArg (fun k=>some (c k)) (by omega),(FrP.of_below hb).trans (FrP.of_fr (Zx g _ _ X) (fun k h1 h2=>by omega)),Ue rX _ (by omega)⟩
 ·rintro a X ⟨t,v3,rfl,hp⟩
  exact hQ t v3 X hp
theorem E0:∀ w,(Go.sizeOf 108).run Tryz.prog w=.ok 2 w:=fun w=>by kernel_rfl
set_option maxRecDepth 100000 in
theorem NO (n i cap:Nat) (hi:i<n) (hn:n≤1000) (hcap:n+1≤cap) (c d:Nat→Value) (g vb:Nat) (w:World) (h:Rw w (some ⟨g,0,none⟩) g n cap 2 c) (h1:∀ j,j<n*2→(c j).oneCell'=true) (hd:SrcRow w vb (vb+1) (some ⟨vb,0,none⟩) (1*2) d) (hvb:vb≠g) (hvf:∀ o,w.frozen? ⟨vb,o,none⟩=false) (hv:vb<w.1.size) :
  Calls Tryz.prog 169 #[.slice (some ⟨g,0,none⟩) n cap,.int .i64 i,.slice (some ⟨vb,0,none⟩) 1 1] w fun e w'=>e=.returned (.slice (some ⟨g,0,none⟩) (n+1) cap)∧Rw w' (some ⟨g,0,none⟩) g (n+1) cap 2 (Jc c i 2 d)∧FrP (fun q=>q=g) w w':=by
 have rm:=h.room (by omega)
 have hgl:=rm.lt
 obtain ⟨tB,kB,hsb,hkB⟩:=Oh (h.cell 0 (by omega))
 obtain ⟨tA,kA,hsa,_⟩:∃ t k,w.shape? vb=some (t,k)∧k≠0:=by
  obtain ⟨b',off',e1,_,_,e4⟩:=hd.at_ 0 (by omega)
  exact Oh (show w.cell? ⟨vb,0,none⟩=some (d 0) by cases e1;exact e4)
 have hov:∀ lb cb,(callFunc 176 #[.slice (some ⟨vb,0,none⟩) 1 1,.slice (some ⟨g,(i+1)*2,none⟩) lb cb]).run Tryz.prog w=.ok (.value (.bool false)) w:=fun lb cb=>by
  rw [run_callFunc_extern Tryz.func176 (by kernel_rfl) (by kernel_rfl) (by kernel_rfl) (e:=Extern.SlicesOverlaps.overlaps #[36,36] #[4]) (by kernel_rfl),
   Lib.run_overlaps_apart w 36 4 108 Tryz.underlying36 2 E0 ⟨vb,0,none⟩ ⟨g,(i+1)*2,none⟩ 1 1 lb cb hvb tA tB kA kB hsa hsb hkB (hvf 0) (hvf kA)]
  rfl
 have HR:=hid h
 have HD:=hid hd
 have H1:=hid h1
 have q1:¬(cap=i):=by omega
 have q2:¬(n=i):=by omega
 have q3:¬(i=n):=by omega
 have q4:¬(cap=i+1):=by omega
 have q5:((i:Int)+1).toNat=i+1:=by omega
 have q6:((n:Int)+1).toNat=n+1:=by omega
 clear h hd h1 hsa hsb rm
 go_enter Tryz.func169,Tryz.ntmps169
 go_wp2_with (simp only [hov])
 clear hov
 refine Pq _ _ _ _ _ _ _ _ _ _ _ _ _ _ _ _ _ _ _ _ _ _ _ _ _ _ _ _ _ _ _ _ _ _ _ _ _ _ _ _ _ _ _ _ _ _ _ _ _ _ _ _ _ _ _ _ _ _ _ _ _ _ _ _ _ _ _ _ _ _ _ _ _ _ _ _ _ _ _ _ _ _ _ _ _ _ _ _ _ _ _ _ g n i cap w c hi hn hcap (HR.out.room (by omega)) HR.out.cell H1.out _ ?_
 rintro t v3 X ⟨c1,c2,hf,hrm⟩
 have HF:=hid hf
 have HC1:=hid c1
 have HC2:=hid c2
 have HRM:=hid hrm
 have src:SrcRow X vb (vb+1) (some ⟨vb,0,none⟩) (1*2) d:=HD.out.frR hf (fun k h1 h2=>by omega) (by omega)
 have HCP:=hid (Kh (P:=Tryz.prog) X 36 3 108 2 Tryz.underlying36 Ij g (i*2) (cap*2) (n+1-i) (cap-i) hrm vb (vb+1) vb 0 1 1 d src (by omega) (by omega))
 clear c1 c2 hf hrm src
 go_wp2_with ((with_reducible show wpList _ _ _ (⟨some 82,_,_,_,_,_⟩::_) _ _);go_must (refine Jd rfl _ _ 36 36 rfl _ _ _ _ (by first|rfl|(simp only [Nat.mul_one];rfl)) rfl HCP.out ?_))
 go_ret
 have r2:=Ue (o:=i*2) (m:=1*2) HRM.out d (by omega)
 refine ⟨rfl,⟨fun _=>rfl,hcap,fun _=>r2,fun j hj=>?_⟩,HF.out.trans (FrP.of_fr (Zx g _ _ X) (fun k h1 h2=>by omega))⟩
 unfold Jc
 by_cases h1:j<i*2
 ·rw [if_pos h1,KR _ (Or.inl h1)]
  exact HC1.out j h1
 ·rw [if_neg h1]
  by_cases h2:j<i*2+2
  ·rw [if_pos h2]
   obtain ⟨q,rfl⟩:∃ q,j=i*2+q:=⟨j-i*2,by omega⟩
   rw [Nc HRM.out d (by omega) (by omega),Nat.add_sub_cancel_left]
  ·rw [if_neg h2,KR _ (Or.inr (by omega))]
   exact HC2.out j (by omega) hj
theorem insAckR (r:Rc) (p:RcP) (k:Nat) (ix:Int) (vb:Nat) (X:World) (hn:r.an≤1000) (hk:k≤r.an) (hg:RcG X r p) (hm:AkRm X r p) (hvf:∀ o,X.frozen? ⟨vb,o,none⟩=false) (hv:vb<X.1.size) (h6:0<r.an→vb≠p.g6) (h0:X.cell? ⟨vb,0,none⟩=some (.int .i64 ix)) (h1:X.cell? ⟨vb,1,none⟩=some (.slice none 0 0)) :
  Calls Tryz.prog 169 #[.slice p.A.aa r.an p.A.ac,.int .i64 k,.slice (some ⟨vb,0,none⟩) 1 1] X fun e w'=>∃ g' cap' c,e=.returned (.slice (some ⟨g',0,none⟩) (r.an+1) cap')∧(∀ i,i<r.an→atAk c i (r.as_ i) (p.AA i) (p.AC i))∧Rw w' (some ⟨g',0,none⟩) g' (r.an+1) cap' 2 (Jc c k 2 (akD ix))∧FrP (fun q=>0<r.an∧q=p.g6) X w'∧((0<r.an∧g'=p.g6)∨X.1.size≤g'):=by
 obtain ⟨c,rw,one,hat⟩:=hg.at_.o6.rw hm
 have h00:0<p.A.ac→0<r.an:=fun h=>Nat.pos_of_ne_zero (fun e=>by have:=hm.a0 e;omega)
 have src:=Ea h0 h1
 by_cases e:k=r.an
 ·rw [e]
  refine (NQ r.an p.A.ac hn c _ p.A.aa p.g6 vb X rw one src).mono ?_
  rintro e' w' ⟨ad',g',cap',rfl,hr,hf,ho⟩
  have had:=hr.addr (ltl (Nat.succ_pos _) hr.le)
  subst had
  exact ⟨g',cap',c,rfl,hat,hr,hf.mono (fun q hq=>⟨h00 hq.1,hq.2⟩),ho.imp (fun h=>⟨h00 h.1,h.2⟩) id⟩
 ·have hpos:0<r.an:=by omega
  have had:=hg.at_.o6.addr hpos
  rw [had] at rw ⊢
  by_cases ec:p.A.ac=r.an
  ·rw [ec]
   refine (NP r.an k (by omega) hn c _ p.g6 0 vb X p.g6 (p.g6+1) (hm.rm (by omega)).lt hv (rw.src one) src).mono ?_
   rintro e' w' ⟨g',cap',rfl,hge,hr,hb⟩
   exact ⟨g',cap',c,rfl,hat,hr,FrP.of_below hb,Or.inr hge⟩
  ·have hal:=hm.al
   refine (NO r.an k p.A.ac (by omega) hn (by omega) c _ p.g6 vb X rw one src (h6 hpos) hvf hv).mono ?_
   rintro e' w' ⟨rfl,hr,hf⟩
   exact ⟨p.g6,p.A.ac,c,rfl,hat,hr,hf.mono (fun q hq=>⟨hpos,hq⟩),Or.inl ⟨hpos,rfl⟩⟩
end Go.Proofs.YtokkbdlofbdljaaGreat
