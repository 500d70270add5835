import Derived.Test.YtdknjmgdgnmhjaaGreatPk32
set_option maxRecDepth 100000
set_option maxHeartbeats 4000000
namespace Go.Proofs.YtdknjmgdgnmhjaaGreat
open Go.RowKit Go.Maps Go.Shelf Go.Proofs.Tryz
variable {L:List EO}{k b R:Nat}{hn hb:Nat→Nat}{w w1:World}{P:Nat→Prop}{c:Array Value}{v:Value}
attribute [local go_sem] Ct
theorem Ab9 (p1 p2 p5 p6 p7 p8 p9 Ea Ee Em D1 DW DN DU DX DO DP DV DT:Value)(R bo:Nat)(ad:OA)(g cap:Nat)(L:List EO)(k:Nat)(e:EO)(W:World)(Df:M7 W ad g cap L)(hk:k<=L.length)(hl:(L.length:Int)<=1099511627775)(hbo:Gp W bo (CJ e.ob e.A e.C))(zbo:bo<W.1.size)(hR:R<W.1.size)(hc:W.cell? ⟨R,0,none⟩=some (.slice ad L.length cap))(VH:W.frozen? ⟨R,0,none⟩=false)(Q:Exit->Act->World->Prop)(hQ:∀(t:Nat->Value) g' cap' X,W.1.size<=g'->L.length+1<=cap'->X.cell? ⟨R,0,none⟩=some (.slice (some ⟨g',0,none⟩) (L.length+1) cap')->X.frozen? ⟨R,0,none⟩=false->FX X g' (L.take k++e::L.drop k)->AB (λq=>q=R) W X->Q .normal ⟨#[.p R 0,p1,p2,.p bo 0,.i k,p5,p6,p7,p8,p9,Ea,Ee,Em,D1,DW,DN,DU,DX,DO,DP,DV,DT,t 0,t 1,t 2,t 3,t 4,t 5,t 6,t 7,t 8,t 9],[]⟩ X):Code.wp prog (rg Tryz.f134 5) Q ⟨#[.p R 0,p1,p2,.p bo 0,.i k,p5,p6,p7,p8,p9,Ea,Ee,Em,D1,DW,DN,DU,DX,DO,DP,DV,DT,undef,undef,undef,undef,undef,undef,undef,undef,undef,undef],[]⟩ W:=by
 refine fH Zc 10 (λt:Nat->Value=>#[.p R 0,p1,p2,.p bo 0,.i k,p5,p6,p7,p8,p9,Ea,Ee,Em,D1,DW,DN,DU,DX,DO,DP,DV,DT,t 0,t 1,t 2,t 3,t 4,t 5,t 6,t 7,t 8,t 9]) (Agi R ad cap L k e W) Abp (λa X=>∃(t:Nat->Value)(g' cap':Nat),a=⟨#[.p R 0,p1,p2,.p bo 0,.i k,p5,p6,p7,p8,p9,Ea,Ee,Em,D1,DW,DN,DU,DX,DO,DP,DV,DT,t 0,t 1,t 2,t 3,t 4,t 5,t 6,t 7,t 8,t 9],[]⟩/\W.1.size<=g'/\L.length+1<=cap'/\X.cell? ⟨R,0,none⟩=some (.slice (some ⟨g',0,none⟩) (L.length+1) cap')/\X.frozen? ⟨R,0,none⟩=false/\FX X g' (L.take k++e::L.drop k)/\AB (λq=>q=R) W X) rfl Zc ?_ ?_ ?_ ?_ rfl ?_ ?_ ?_;.intro i j h;unfold Abp at h;omega
 .intro l i hr j hj;obtain⟨_,o,ho,BJ⟩:=mem_ready.1 hr;rcases hj with⟨rfl,rfl⟩|⟨rfl,rfl⟩|⟨rfl,rfl⟩|⟨rfl,rfl|rfl|rfl⟩|⟨rfl,hj⟩|⟨rfl,rfl⟩|⟨rfl,rfl|rfl⟩<;>simp only[Ah,Ai,Af,AZ]at ho<;>subst ho;.exact BJ ⟨1,.data⟩ Ze rfl
  .exact BJ ⟨2,.data⟩ Ze rfl
  .exact BJ ⟨3,.data⟩ Ze rfl
  .exact BJ ⟨4,.data⟩ Ze rfl
  .exact BJ ⟨5,.data⟩ Ze rfl
  .exact BJ ⟨6,.data⟩ Ze rfl
  .rcases(jh j Za)with rfl|rfl|rfl|rfl|rfl|rfl|rfl|rfl;.exact BJ ⟨0,.phase⟩ Ze rfl
   .exact BJ ⟨1,.phase⟩ Ze rfl
   .exact BJ ⟨2,.phase⟩ Ze rfl
   .exact BJ ⟨3,.phase⟩ Ze rfl
   .exact BJ ⟨4,.phase⟩ Ze rfl
   .exact BJ ⟨5,.phase⟩ Ze rfl
   .exact BJ ⟨6,.phase⟩ Ze rfl
   .exact BJ ⟨7,.phase⟩ Ze rfl
  .exact BJ ⟨8,.data⟩ Ze rfl
  .exact BJ ⟨9,.data⟩ Ze rfl
  .exact BJ ⟨7,.data⟩ Ze rfl
 .intro f Li hf j hj;have f9:f 9:=hf 9 cj;have f8:f 8:=Li 9 8 cj f9;rcases(show j<8\/j=8\/j=9 by omega)with h|rfl|rfl;.exact Li 8 j cj f8
  .exact f8
  .exact f9
 .intro i v X Y h hb;match i with
  |7=>obtain⟨g',cap',e1,e2,e3,e4⟩:=h;exact⟨g',cap',e1,e2,e3,e4.grow hb⟩
  |0=>exact h
  |1=>exact h
  |2=>exact h
  |3=>exact h
  |4=>exact h
  |5=>exact h
  |6=>exact h
  |_+8=>exact h
 .intro i hi t X K hb hg hK;rcases(Va i Za)with rfl|rfl|rfl|rfl|rfl|rfl|rfl|rfl|rfl|rfl;.exact UY
  .exact UY
  .have AY:t 1=_:=hg 1 cj;exact vL
  .have AY:t 2=_:=hg 2 cj;exact vL
  .have AY:t 3=_:=hg 3 cj;have hcX:=(hb.cell (p:=⟨R,0,none⟩) hR).trans hc;exact vL
  .exact UY
  .obtain⟨q0,q1,q2,q3,q4,q5,q6⟩:=I0 (hbo.below hb zbo);exact UY
  .have AY:t 4=_:=hg 4 cj;have Ff:t 5=_:=hg 5 cj;have UB:t 6=_:=hg 6 cj;refine Au rfl rfl ?_;have HK:=Ab hK;have Ig:=Ab (Df.grow hb);clear hK hg;go_simp;go_at_call 138;refine(aI ad g cap L k e X Ig hk hl).mono ?_;rintro r Y ⟨g',cap',rfl,z1,z2,hr,Nn⟩;have h:=HK (.l (some ⟨g',0,none⟩) (L.length+1) cap') Y ⟨g',cap',rfl,AJ hb.size z1,z2,hr⟩ Nn;simpa[AX,AY,Ff,UB]using h
  .have AY:t 0=_:=hg 0 cj;exact vL
  .have AY:t 8=_:=hg 8 cj;exact vL
 .intro t X K hb hg hK;have AY:t 9=_:=hg 9 Za;obtain⟨g',cap',e7,z1,z2,hr⟩:=hg 7 Za;have hcX:=(hb.cell (p:=⟨R,0,none⟩) hR).trans hc;have hfX:=(hb.frozen (p:=⟨R,0,none⟩) hR).trans VH;have gL:AB (λq=>q=R) X (X.setCell ⟨R,0,none⟩ (.l (some ⟨g',0,none⟩) (L.length+1) cap')):=AB.setCell (P:=λq=>q=R) (AB.refl _ X) (p:=⟨R,0,none⟩) rfl _;have h:=hK ⟨#[.p R 0,p1,p2,.p bo 0,.i k,p5,p6,p7,p8,p9,Ea,Ee,Em,D1,DW,DN,DU,DX,DO,DP,DV,DT,t 0,t 1,t 2,t 3,t 4,t 5,t 6,t 7,t 8,t 9],[]⟩ (X.setCell ⟨R,0,none⟩ (.l (some ⟨g',0,none⟩) (L.length+1) cap')) ⟨t,g',cap',rfl,z1,z2,Cd _ _ _ hcX,by rw[Fs];exact hfX,hr.fr gL (λh=>by omega),(Aj hb).trans gL⟩;refine Au rfl rfl ?_;clear hr gL hK hg;go_simp;simpa[e7,AY]using h
 .rintro a X ⟨t,g',cap',rfl,h1,h2,h3,h4,h5,h6⟩;exact hQ t g' cap' X h1 h2 h3 h4 h5 h6
theorem eI (o:Ob)(L:List EO):(Jk o L).map EO.ob=(L.map EO.ob).filter (CV o):=by unfold Jk;rw[List.filter_map];rfl
def OI (o:Ob)(L:List EO)(k:Nat):Prop:=k<=L.length/\(∀j,j<k->DY (Ii L j).ob o=true)/\(k<L.length->DY (Ii L k).ob o=false)
theorem zZ{o:EO}(h:OI o.ob L k):((Jk o.ob L).take k++o::(Jk o.ob L).drop k).map EO.ob=Ih o.ob (L.map EO.ob):=by
 obtain⟨h1,h2,h3⟩:=h;rw[Rx o.ob (L.map EO.ob) k Zcj (λj hj=>⟨_,eY Za,h2 j hj⟩) (λhk=>by
  have hk':k<L.length:=by simpa using hk
  exact⟨_,eY hk',h3 hk'⟩)];rw[List.map_append,O8,List.map_take,List.map_drop,eI]
theorem Xx{o:Ob}(h:OI o L k):k<=(Jk o L).length:=by obtain⟨h1,h2,_⟩:=h;have e:Jk o (L.take k)=L.take k:=LD h1 (λt ht=>by have:=(K7 _ _).2 (h2 t ht);exact decide_eq_true Za);have hs:(Jk o (L.take k)).length<=(Jk o L).length:=((List.take_sublist k L).filter _).length_le;rw[e,Ly,Nat.min_eq_left h1]at hs;exact hs
theorem mi (e:EO)(R:Nat)(ad:OA)(g cap:Nat)(L:List EO)(w:World)(hR:R<w.1.size)(uk:ad≠none->¬R=g)(hc:w.cell? ⟨R,0,none⟩=some (.slice ad L.length cap))(VH:w.frozen? ⟨R,0,none⟩=false)(Df:M7 w ad g cap L)(hl:(L.length:Int)<=1099511627775):Calls prog 134 #[.p R 0,.agg (vO e.ob e.A e.C)] w λr w'=>∃k g' cap',r=.returned (.tuple #[])/\OI e.ob L k/\w.1.size<=g'/\(Jk e.ob L).length+1<=cap'/\w'.cell? ⟨R,0,none⟩=some (.slice (some ⟨g',0,none⟩) ((Jk e.ob L).length+1) cap')/\w'.frozen? ⟨R,0,none⟩=false/\FX w' g' ((Jk e.ob L).take k++e::(Jk e.ob L).drop k)/\AB (λq=>q=R\/(L≠[]/\q=g)) w w':=by
 have hB:=Ak w (.cells (CJ e.ob e.A e.C) 52);have hz:(w.alloc (.cells (CJ e.ob e.A e.C) 52)).1.size=w.1.size+1:=Ze;have sF:=E5 w (CJ e.ob e.A e.C) 52;obtain⟨b0,b1,b2,b3,b4,b5,b6⟩:=I0 sF;have Aai:=Df.grow hB;have nA:=Xt (λx=>!DY x.ob e.ob) w.1.size ad g cap L (w.alloc (.cells (CJ e.ob e.A e.C) 52)) Za (λh=>by
   rcases Df with⟨_,h2,_⟩|⟨h1,_,_⟩;.exact absurd h2 h
   .exact h1) (λh=>by
   rcases Aai with⟨_,h2,_⟩|⟨_,h2,_⟩;.exact absurd h2 h
   .exact h2) (λW x PX=>S8 x.ob e.ob x.A e.A x.C e.C w.1.size W (by have:=PX.size;omega) ⟨(PX.cell (p:=⟨w.1.size,0,none⟩) Zay).trans b0,(PX.cell (p:=⟨w.1.size,0+1,none⟩) Zay).trans b1,(PX.cell (p:=⟨w.1.size,0+2,none⟩) Zay).trans b2,(PX.cell (p:=⟨w.1.size,0+3,none⟩) Zay).trans b3,(PX.cell (p:=⟨w.1.size,0+4,none⟩) Zay).trans b4,(PX.cell (p:=⟨w.1.size,0+5,none⟩) Zay).trans b5,(PX.cell (p:=⟨w.1.size,0+6,none⟩) Zay).trans b6⟩);have hcR:=(hB.cell (p:=⟨R,0,none⟩) hR).trans hc;have hfR:=(hB.frozen (p:=⟨R,0,none⟩) hR).trans VH;have hRz:R<(w.alloc (.cells (CJ e.ob e.A e.C) 52)).1.size:=Za;have Ig:=Ab Df;have Ahm:=Ab Aai;have OB:=Ab sF;have HFR:=Ab hfR;clear Df Aai VH sF b0 b1 b2 b3 b4 b5 b6 hfR;have HCR:=Ab hcR;clear hcR;go_enter func134,ntmps134;go_wp2_with fail;refine nA.mono ?_;rintro e1 w1 ⟨r,rfl,qS,AU⟩;have c1:=(AU.cell (p:=⟨R,0,none⟩) hRz).trans HCR;have C7:=AU.size;have hR1:R<w1.1.size:=Za;have hBB:Below w.1.size w w1:=hB.trans (AU.mono Za);have gM:=Ab ((AU.frozen (p:=⟨R,0,none⟩) hRz).trans HFR);have Aec:=Ab (OB.below AU (by rw[hz];omega));obtain⟨x0,x1,x2,x3,x4,x5,x6⟩:=I0 Aec;have zx:w.1.size<w1.1.size:=Za;clear nA HCR HFR OB hc;obtain⟨k,hkr,lG⟩:∃k:Nat,(if r<0 then(L.length:Int)else r)=k/\OI e.ob L k:=by
  rcases qS with⟨rfl,Bg⟩|⟨k,hk,rfl,hkt,B7⟩;.exact⟨L.length,Ze,AG _,λj hj=>by simpa using Bg j hj,λh=>absurd h (Bc _)⟩
  .exact⟨k,by rw[if_neg Za],Nat.le_of_lt hk,λj hj=>by simpa using B7 j hj,λ_=>by simpa using hkt⟩
 have HPL:=Ab lG;have Aiy:=Ab qS;have Aha:=Ab (Ahm.grow AU);clear qS lG;have G7:∀(k:Nat),True:=λ_=>trivial;clear G7;by_cases hr:r<0;.rw[if_pos hr]at hkr;obtain rfl:L.length=k:=Za;exact Af5
 .rw[if_neg hr]at hkr;subst hkr;exact Af5
theorem Aih (v:Value)(w:World):(Instr.typeAssert (.iface 86 v) 20 86 true).run prog w=.ok (.tuple #[v,.bool true]) w:=by simp[Instr.typeAssert,run_underlying underlying86]
theorem Ais (v:Value)(w:World):(Instr.typeAssert (.iface 91 v) 20 91 true).run prog w=.ok (.tuple #[v,.bool true]) w:=by simp[Instr.typeAssert,run_underlying underlying91]
theorem Afs (v:Value)(w:World):(Instr.typeAssert (.iface 91 v) 20 86 true).run prog w=.ok (.tuple #[.agg #[.s ByteArray.empty,.s ByteArray.empty,.i 0,.i 0,.s ByteArray.empty,.bool false,.l none 0 0],.bool false]) w:=by simp[Instr.typeAssert,run_underlying underlying86];rfl
theorem Vf (e:EO)(R:Nat)(ad:OA)(g cap:Nat)(L:List EO)(w:World)(hR:R<w.1.size)(uk:ad≠none->¬R=g)(hc:w.cell? ⟨R,0,none⟩=some (.slice ad L.length cap))(VH:w.frozen? ⟨R,0,none⟩=false)(Df:M7 w ad g cap L)(hl:(L.length:Int)<=1099511627775):Calls prog 19 #[.iface 57 (.p R 0),.iface 86 (.agg (vO e.ob e.A e.C))] w λr w'=>∃k g' cap',r=.returned (.tuple #[])/\OI e.ob L k/\w.1.size<=g'/\(Jk e.ob L).length+1<=cap'/\w'.cell? ⟨R,0,none⟩=some (.slice (some ⟨g',0,none⟩) ((Jk e.ob L).length+1) cap')/\w'.frozen? ⟨R,0,none⟩=false/\FX w' g' ((Jk e.ob L).take k++e::(Jk e.ob L).drop k)/\AB (λq=>q=R\/(L≠[]/\q=g)) w w':=by
 have h81:=Aih (.agg (vO e.ob e.A e.C));have hB:=Ak w (.cells (CJ e.ob e.A e.C) 86);have nM:=mi e R ad g cap L (w.alloc (.cells (CJ e.ob e.A e.C) 86)) Zd uk ((hB.cell (p:=⟨R,0,none⟩) hR).trans hc) ((hB.frozen (p:=⟨R,0,none⟩) hR).trans VH) (Df.grow hB) hl;clear hc VH Df;go_enter func19,ntmps19;go_wp2_with fail;refine nM.mono ?_;rintro r w1 ⟨k,g',cap',rfl,hp,z1,z2,c1,f1,r1,VP⟩;have z3:w.1.size<=g':=by simp at z1;omega
 have HP:=Ab hp;have HC:=Ab c1;have HF:=Ab f1;have HR:=Ab r1;have HX:=Ab ((Aj (P:=λq=>q=R\/(L≠[]/\q=g)) hB).trans VP);clear nM hp c1 f1 r1 VP h81;go_wp2;go_end0;exact⟨k,g',cap',rfl,HP,z3,z2,HC,HF,HR,HX⟩
theorem Vy (o:Ob)(R:Nat)(ad:OA)(g cap:Nat)(L:List EO)(w:World)(hR:R<w.1.size)(uk:ad≠none->¬R=g)(hc:w.cell? ⟨R,0,none⟩=some (.slice ad L.length cap))(VH:w.frozen? ⟨R,0,none⟩=false)(Df:M7 w ad g cap L)(hl:(L.length:Int)<=1099511627775):Calls prog 19 #[.iface 57 (.p R 0),.iface 91 (.agg #[.s o.k,.s o.n])] w λe w'=>e=.returned (.tuple #[])/\w'.cell? ⟨R,0,none⟩=some (.slice ad (Jk o L).length cap)/\w'.frozen? ⟨R,0,none⟩=false/\M7 w' ad g cap (Jk o L)/\AB (λq=>q=R\/(L≠[]/\q=g)) w w':=by have h81:=Afs (.agg #[.s o.k,.s o.n]);have h86:=Ais (.agg #[.s o.k,.s o.n]);have hB:=Ak w (.cells #[.s o.k,.s o.n] 91);have nM:=Po o R ad g cap L (w.alloc (.cells #[.s o.k,.s o.n] 91)) Zd uk ((hB.cell (p:=⟨R,0,none⟩) hR).trans hc) ((hB.frozen (p:=⟨R,0,none⟩) hR).trans VH) (Df.grow hB) hl;clear hc VH Df;go_enter func19,ntmps19;go_wp2_with fail;refine nM.mono ?_;rintro r w1 ⟨rfl,c1,f1,r1,VP⟩;have HC:=Ab c1;have HF:=Ab f1;have HR:=Ab r1;have HX:=Ab ((Aj (P:=λq=>q=R\/(L≠[]/\q=g)) hB).trans VP);clear nM c1 f1 r1 VP h81 h86;go_wp2;go_end0;exact⟨rfl,HC,HF,HR,HX⟩
theorem WV (c:Ch)(ad:OA)(cap:Nat)(w:World)(lo hi:Nat)(CD:hi<=w.1.size)(hl:(c.ob.hn:Int)<=8796093022208)(hc:AK w lo hi ad c.ob.hn c.ob.hs):Calls prog 20 #[.agg #[.i c.t,.bool c.g,.s c.ob.k,.s c.ob.n,.i c.ob.t,.i c.ob.b,.s c.ob.m,.bool c.ob.e,.l ad c.ob.hn cap]] w λr w'=>((c.g=true/\r=.returned (.iface 91 (.agg #[.s c.ob.k,.s c.ob.n])))\/(c.g=false/\∃e:EO,e.ob=c.ob/\r=.returned (.iface 86 (.agg (vO e.ob e.A e.C)))/\BA w' e.hb (e.hb+1) e.A e.ob.hn e.ob.hs/\w.1.size<=e.hb/\(e.ob.hn≠0->e.hb<w'.1.size)))/\Below w.1.size w w':=by have hB:=Ak w (.cells #[.i c.t,.bool c.g,.s c.ob.k,.s c.ob.n,.i c.ob.t,.i c.ob.b,.s c.ob.m,.bool c.ob.e,.l ad c.ob.hn cap] 54);cases hg:c.g with
 |true=>rw[hg]at hB;go_enter func20,ntmps20;go_wp2_with (go_at_call 40;go_must(refine(JD c.ob ad cap _).mono ?_;rintro e1 w1 ⟨rfl,AU⟩));go_ret;exact⟨AA ⟨trivial,rfl⟩,hB.trans (AU.mono Ze)⟩
 |false=>
  rw[hg]at hB;have Cs:=hc.below hB CD;have HI:=Ab Cs;clear hc Cs;go_enter func20,ntmps20;go_wp2_with fail;refine(Lr c.ob ad cap _ lo hi Zd hl (by exact HI)).mono ?_;rintro e1 w1 ⟨ad',cap',b,rfl,z1,z2,ho,AU⟩;have HO:=Ab ho;have HZ:=Ab z2;have z3:w.1.size<=b:=by simp at z1;omega
  clear ho z2;go_wp2;go_ret;exact⟨Az ⟨trivial,⟨c.ob,ad',cap',b⟩,rfl,rfl,HO,z3,HZ⟩,hB.trans (AU.mono Ze)⟩
theorem Q3 (B:Bk)(a1 a2 a3:OA)(c1 c2 c3:Nat)(ki pr:ByteArray)(w:World)(lo hi:Nat)(CD:hi<=w.1.size)(BG:BS B)(Cs:BL w lo hi B a1 a2 a3)(hv:Bj (ID B) 7=false):Calls prog 27 #[.agg (vB B a1 a2 a3 c1 c2 c3),.s ki,.s pr] w λe w'=>e=.returned (.tuple #[.l none 0 0,.i 0])/\Below w.1.size w w':=by go_enter func27,ntmps27;go_wp2_with (go_at_call 45;go_must(refine(FA B a1 a2 a3 c1 c2 c3 _ lo hi Zd BG (Cs.below Do CD)).mono ?_;rw[hv];rintro e w1 ⟨rfl,AU⟩));refine bodyPost_ret (v:=.tuple #[.l none 0 0,.i 0]) (by simp[results,results27,go_sem]) rfl ⟨rfl,?_⟩;exact(Ak _ _).trans (AU.mono Ze)
attribute [local go_sem] Ct
def QV (mk:Value->Value->Value->Value->Value->Array Value)(N0 Bl:Nat)(Pk:Nat->Prop)(W:World)(x:Nat->Ob)(L:List Nat)(k:Nat)(v:Value)(ah:OA)(ch:Nat)(l:Array Bool)(a:Act)(w':World):Prop:=∃(Qx SK SQ Sw Qu:Value)(w1 w2:World)(ad':OA)(cap' b':Nat)(v':Value)(A2:Nat->Option Addr)(C2 h2:Nat->Nat),a=⟨mk Qx SK SQ Sw Qu,[]⟩/\l.size=6/\(l.getD 2 false=true->l.getD 1 false=true)/\(l.getD 3 false=true->l.getD 2 false=true)/\(l.getD 4 false=true->l.getD 3 false=true)/\(l.getD 4 false=true->l.getD 0 false=true)/\(l.getD 5 false=true->l.getD 4 false=true)/\(l.getD 0 false=true->Qx=v)/\(l.getD 1 false=true->SK=VT (x k) ah ch)/\(l.getD 2 false=false->w'=W.drew)/\(l.getD 2 false=true->SQ=VT (x k) ad' cap'/\Below W.1.size W w1/\W.1.size<=b'/\((x k).hn≠0->b'<w1.1.size)/\BA w1 b' (b'+1) ad' (x k).hn (x k).hs)/\(l.getD 2 false=true->l.getD 3 false=false->w'=w1)/\(l.getD 3 false=true->Sw=.l (some ⟨w1.1.size,0,none⟩) 1 1)/\(l.getD 3 false=true->l.getD 4 false=false->w'=w1.alloc (.cells (vO (x k) ad' cap') 52))/\(l.getD 4 false=true->Qu=v'/\Py w2 N0 v' (L++[k]).length (CI x (L++[k])) A2 C2 h2/\Boxed w2 Bl 23 v/\KeepsOthers W w2/\AB Pk W w2)/\(l.getD 4 false=true->l.getD 5 false=false->w'=w2)/\(l.getD 5 false=true->w'=w2.setCell ⟨Bl,0,none⟩ v')
attribute [local go_sem] Ct
theorem RL (F:Fence)(m:Nat)(Qv:∀(k f:Nat)(args:Array Value)(w:World)(R:Ending->World->Prop),Calls prog f args w R->CallsIn F k prog f args w R)(h7:F.fn 27)(h21:F.fn 45)(h22:F.fn 53)(h23:F.fn 37)(h51:F.fn 79)(h52:F.fn 48)(Np:F.round=none)(hm:4<=m)(B:Bk)(a1 a2 a3:OA)(c1 c2 c3:Nat)(ki pr:ByteArray)(w:World)(lo hi:Nat)(CD:hi<=w.1.size)(BG:BS B)(GJ:(B.on:Int)<=1048576)(LS:(pr.size:Int)<=140737488355328)(Cs:BL w lo hi B a1 a2 a3)(hv:Bj (ID B) 7=true):CallsIn F m prog 27 #[.agg (vB B a1 a2 a3 c1 c2 c3),.s ki,.s pr] w λe w'=>∃ad' cap' g A C hb,e=.returned (.tuple #[.l ad' (Ku (λi=>Hv (B.os i) ki pr) B.on).length cap',.i B.v])/\D4 w' ad' g (Ku (λi=>Hv (B.os i) ki pr) B.on).length (CI B.os (Ku (λi=>Hv (B.os i) ki pr) B.on)) A C hb/\(∀q,Fm g (Ku (λi=>Hv (B.os i) ki pr) B.on).length (λi=>(CI B.os (Ku (λi=>Hv (B.os i) ki pr) B.on) i).hn) hb q->w.1.size<=q)/\Below w.1.size w w':=by
 have h1:1<=m:=Za;obtain⟨i0,Fq,GH,C7,Fk⟩:=info_parts Eu;refine callsIn_of_wp_marks func27 rfl h7 ?_ Np;simp only[ntmps27,C4,CT,FU,Nat.reduceAdd,Nat.reduceSub,DB,DC,EA,DM,Dt,Cy];gi_wp2_with (first
  |(gi_at_call 45;go_must(refine(Qv _ _ _ _ _ (FA B a1 a2 a3 c1 c2 c3 _ lo hi Zd BG (Cs.below Do CD))).mono ?_;rw[hv];rintro e w1 ⟨rfl,AU⟩;have H1:=(E5 w (IH B a1 a2 a3 c1 c2 c3) 36).below AU Ze;have H2:=H1.below (Ak w1 (.cells #[.l none 0 0] 23)) Zas;obtain⟨p0,p1,p2,p3,p4⟩:=NM H2))
  |(gi_at_call 53;go_must(refine(sk F (m-1) h22 Np _ _ _ _ _ _).mono ?_;rintro e w2 ⟨rfl,rfl⟩)));have ZB:Below w.1.size w w1:=(Ak _ _).trans (AU.mono Ze);have zw1:w.1.size<w1.1.size:=by have:=AU.size;simp at this;omega
 obtain⟨A,C,Aeo⟩:=Cs.o.choose;obtain⟨W0,Uy⟩:∃W0,(((w1.alloc (.cells #[.l none 0 0] 23)).alloc (.cells #[.l a1 B.on c1] 23)).alloc (.cells #[.s ki] 9)).alloc (.cells #[.s pr] 9)=W0:=⟨_,rfl⟩;have Aah:W0.1.size=w1.1.size+4:=by rw[<-Uy];simp
 have Aat:Below w1.1.size w1 W0:=by rw[<-Uy];exact(((Ak _ _).alloc Ze _).alloc Zd _).alloc Zd _
 have bL:Boxed W0 w1.1.size 23 (.l none 0 0):=by rw[<-Uy];exact(((Boxed.new w1 23 (.l none 0 0)).alloc _).alloc _).alloc _
 have bO:Boxed W0 (w1.1.size+1) 23 (.l a1 B.on c1):=by have h:=((Boxed.new (w1.alloc (.cells #[.l none 0 0] 23)) 23 (.l a1 B.on c1)).alloc (.cells #[.s ki] 9)).alloc (.cells #[.s pr] 9);rw[Uy]at h;simpa using h
 have bK:Boxed W0 (w1.1.size+2) 9 (.s ki):=by have h:=(Boxed.new ((w1.alloc (.cells #[.l none 0 0] 23)).alloc (.cells #[.l a1 B.on c1] 23)) 9 (.s ki)).alloc (.cells #[.s pr] 9);rw[Uy]at h;simpa using h
 have bP:Boxed W0 (w1.1.size+3) 9 (.s pr):=by have h:=Boxed.new (((w1.alloc (.cells #[.l none 0 0] 23)).alloc (.cells #[.l a1 B.on c1] 23)).alloc (.cells #[.s ki] 9)) 9 (.s pr);rw[Uy]at h;simpa using h
 have MU:Below w.1.size w W0:=ZB.trans (Aat.mono Za);have Mu:TR W0 hi a1 B.on B.os A C:=Aeo.frP (Aj (P:=λ_=>False) MU) (λ_ _ h=>h) CD;have H0:Gp W0 w.1.size (IH B a1 a2 a3 c1 c2 c3):=H1.below Aat zw1;rw[Uy];clear Uy p0 p1 p2 p3 p4 H1 H2 AU Aat;obtain⟨Pk,bN⟩:∃Pk:Nat->Prop,Pk=λq=>q=w1.1.size\/w1.1.size+4<=q:=⟨_,rfl⟩;have lh:∀{X Y:World},Below (w1.1.size+4) X Y->AB Pk X Y:=λ{X Y}h=>⟨h.os,h.tape,h.output,h.size,λq _ hq=>h.block q (by
  rw[bN]at hq;rcases AD q (w1.1.size+4)with h1|h1;.exact h1
  .exact absurd (Az h1) hq)⟩;have MD:∀q,¬Pk q↔¬(q=w1.1.size\/w1.1.size+4<=q):=λq=>by rw[bN]
 have vk:∀i,i<B.on->(((B.os i).n.size:Int)<=140737488355328/\((B.os i).hn:Int)<=8796093022208):=λi hi'=>⟨(BG.os i hi').n,(BG.os i hi').h⟩;refine wpIn_rangeFunc_ownH (α:=Ix B.on) Np h1 (gf:=79) (lb:=#[.p (w1.1.size+1) 0,.p (w1.1.size+1+1) 0,.p (w1.1.size+1+1+1) 0]) (encs:=λk=>#[VT (B.os k.1) (A k.1) (C k.1)]) (Kp:=AB Pk) (S:=λys=>I6 ys=Ku (λi=>Hv (B.os i) ki pr) B.on) (Sp:=λ_=>True) (N:=B.on) (w0:=W0) rfl h51 (enters_of func79 Zc rfl)
  ?seq (λh1 h2=>h1.trans h2) (λX l o o' hl La ud ho3=>lh (belowK_b (w:=W0) (n₀:=w1.1.size+4) Za X l o o' hl La ud ho3)) Dx (λ_=>rfl)
  (λpre W=>(∃v A' C' hb,Boxed W w1.1.size 23 v/\Py W (w1.1.size+4) v (I6 pre).length (CI B.os (I6 pre)) A' C' hb)/\AB Pk W0 W)
  (λ_ _ _=>False) ?own (λ_ _ _ _ _ hs _ _=>hs) ?start
  (λk a' W=>∃Bx,w1.1.size+4<=Bx/\W.heap[Bx]?=some (.cells (CJ (B.os k.1) (A k.1) (C k.1)) 52 (0,0))/\a'={tmps:=#[.agg (vB B a1 a2 a3 c1 c2 c3),.s ki,.s pr,.p (w.1.size) 0,undef,undef,.l none 0 0,.i 0,.p (w1.1.size) 0,.p Bx 0,.agg (vB B a1 a2 a3 c1 c2 c3),.bool true,.bool false,.p (w.1.size) 2,.l a1 B.on c1,.s ki,.s pr,.func (.func 79) #[] #[.p (w1.1.size+1) 0,.p (w1.1.size+1+1) 0,.p (w1.1.size+1+1+1) 0],VT (B.os k.1) (A k.1) (C k.1),undef,undef,undef,undef,undef,undef,undef,undef],defers:=[]})
  (λk a' _ X Y row hs hg hr=>by obtain⟨Bx,e1,e2,e3⟩:=hs;refine⟨Bx,e1,(hg.block Bx (AM.1 e2).1 (λe=>?_)).trans e2,e3⟩;obtain⟨_,o,ho,hc⟩:=hr Bx e.symm;rw[e2]at ho;cases ho;cases hc)
  ?assign ?body ?done ?stop;case seq=>
  exact λl J Jx W hW hJ _ hY h0=>cy F (m-1) h51 h52 Np Za l _ _ _ hi Pk B.on B.os a1 c1 A C ki pr GJ J Jx (λi w' hi'=>Qv _ _ _ _ _ (XH (B.os i) (A i) (C i) ki pr w' (vk i hi').1 LS)) W hJ hY
   ((hW.cell (p:=⟨w1.1.size+1,0,none⟩) (by show w1.1.size+1<_;omega)).trans bO.cell) ((hW.cell (p:=⟨w1.1.size+2,0,none⟩) (by show w1.1.size+2<_;omega)).trans bK.cell) ((hW.cell (p:=⟨w1.1.size+3,0,none⟩) (by show w1.1.size+3<_;omega)).trans bP.cell)
   ⟨by have:=hW.size;omega,(MD _).2 Za⟩ ⟨by have:=hW.size;omega,(MD _).2 Za⟩ (by have:=hW.size;omega) (λq hq=>(MD q).2 Za) (Mu.frP (Aj (P:=λ_=>False) hW) (λ_ _ h=>h) Za) h0
 case own=>intro pre X Y row hs hg hr;obtain⟨⟨v,A',C',hb,e1,e2⟩,e3⟩:=hs;exact⟨⟨v,A',C',hb,e1.kept hg (λe=>by have:=(hr _ e.symm).1;omega),e2.turn hg (λr e=>(hr r e).2)⟩,e3.trans ((BB hg).mono (λq hq=>by rw[bN];have:=(hr _ hq).1;exact Az Za))⟩
 case start=>exact⟨⟨_,λ_=>none,λ_=>0,λ_=>0,bL,⟨⟨λ_=>.i 0,Ou _ _ _ _,λi hi'=>absurd hi' (Ae _)⟩,λi hi'=>absurd hi' (Ae _),λi hi'=>absurd hi' (Ae _),λi hi'=>absurd hi' (Ae _),λi j hi'=>absurd hi' (Ae _)⟩⟩,AB.refl _ _⟩
 case assign=>rintro l pre k W K ⟨⟨v,A',C',hb,e1,e2⟩,e3⟩ hK;simp only[VT];gi_wp2;have z:=e3.size;exact hK _ _ ((KeepsOthers.alloc _ _).from _) (Aj Do) ⟨⟨v,A',C',hb,e1.alloc _,e2.grow Do⟩,e3.trans (Aj Do)⟩ ⟨W.1.size,Za,World.alloc_heap_new W _,rfl⟩
 case body=>
  rintro l0 pre k a' W hl ⟨r,hr⟩⟨⟨v,A',C',hb,bV,bd⟩,hf⟩⟨Bx,hBx,bX,rfl⟩ hlt;have zW:=hf.size;have hX:Gp W Bx (CJ (B.os k.1) (A k.1) (C k.1)):=λi=>by simp[World.cell?,bX]
  have My:=(vk k.1 k.2).2;have hsW:AK W 0 hi (A k.1) (B.os k.1).hn (B.os k.1).hs:=(Mu.frP hf (λq hq=>(MD q).2 Za) Za).holds k.1 k.2;have hhW:hi<=W.1.size:=Za;obtain⟨x0,x1,x2,x3,x4,x5,x6⟩:=I0 hX;have gt:1<=m-1-1:=Za;gi_wp2;refine Je Zc (QV (λQx SK SQ Sw Qu=>#[.agg (vB B a1 a2 a3 c1 c2 c3),.s ki,.s pr,.p (w.1.size) 0,undef,undef,.l none 0 0,.i 0,.p (w1.1.size) 0,.p Bx 0,.agg (vB B a1 a2 a3 c1 c2 c3),.bool true,.bool false,.p (w.1.size) 2,.l a1 B.on c1,.s ki,.s pr,.func (.func 79) #[] #[.p (w1.1.size+1) 0,.p (w1.1.size+1+1) 0,.p (w1.1.size+1+1+1) 0],VT (B.os k.1) (A k.1) (C k.1),Qx,SK,SQ,Sw,Qu,undef,undef,undef]) (w1.1.size+4) w1.1.size Pk W B.os (I6 pre) k.1 v (A k.1) (C k.1)) ?_ ?_ ?_ ?_
  .refine⟨_,_,_,_,_,W,W,none,0,0,v,λ_=>none,λ_=>0,λ_=>0,rfl,Ze,?_⟩;simp
  .intro l a w' hI;obtain⟨Qx,SK,SQ,Sw,Qu,w3,w4,CY,cap2,b2,v2,A2,C2,h2,rfl,Wu,_⟩:=hI;exact Wu
  .intro l a w' hI hr';obtain⟨Qx,SK,SQ,Sw,Qu,w3,w4,CY,cap2,b2,v2,A2,C2,h2,rfl,Wu,n21,uv,n43,n40,n54,f0,f1,g0,f2,g1,f3,g2,f4,g4,g5⟩:=hI;have AL:=JF Zc (by rw[Wu];rfl) hr';obtain rfl:=g5 (AL 5 Zb);obtain⟨rfl,j1,j2,j3,j4⟩:=f4 (AL 4 Zb);clear n21 uv n43 n40 n54 f0 f1 g0 f2 g1 f3 g2 f4 g4 g5 AL hr' Wu;gi_wp2;have On:Pk w1.1.size:=by rw[bN];exact AA rfl
   exact⟨(j3.trans (KeepsOthers.setCell _ _ _)).from _,j4.trans ((AB.refl _ _).setCell On _),⟨⟨Qu,A2,C2,h2,j2.set _,by rw[L4];exact j1.fr (P:=λq=>q=w1.1.size) (AB.setCell (P:=λq=>q=w1.1.size) (AB.refl _ _) (p:=⟨w1.1.size,0,none⟩) KV _) (λq hq _ e=>by omega)⟩,hf.trans (j4.trans ((AB.refl _ _).setCell On _))⟩⟩
  .intro l a w' i hI hr';obtain⟨Qx,SK,SQ,Sw,Qu,w3,w4,CY,cap2,b2,v2,A2,C2,h2,rfl,Wu,n21,uv,n43,n40,n54,f0,f1,g0,f2,g1,f3,g2,f4,g4,g5⟩:=hI;obtain⟨hu,o',ho,BJ⟩:=mem_ready.1 hr';have Aau:i<6:=by
    rcases AD i 6 with h|h;.exact h
    .exact vK
   have kp:∀j,¬j=i->(l.setIfInBounds i true).getD j false=l.getD j false:=λj hj=>by rw[Cq Za,if_neg hj]
   have ki':(l.setIfInBounds i true).getD i false=true:=by rw[Cq Za,if_pos rfl]
   have KS:(l.setIfInBounds i true).size=6:=by simp[Wu]
   have FH:l.getD i false=false:=by simpa[Array.getD,Wu,Aau]using hu
   clear hr' hu;rcases(ae i Za)with rfl|rfl|rfl|rfl|rfl|rfl
   .simp only[Ah,Af,AZ]at ho;subst ho;clear BJ;have l4:=Gk n40 FH;have Li:w'.cell? ⟨w1.1.size,0,none⟩=some v:=by cases e3:l.getD 3 false with
     |true=>rw[g2 e3 l4];exact((Fa bV (f2 (uv e3)).2.1).alloc _).cell
     |false=>cases e2:l.getD 2 false with
      |true=>rw[g1 e2 e3];exact(Fa bV (f2 e2).2.1).cell
      |false=>rw[g0 e2];exact bV.cell
    refine CN rfl rfl ?_;generalize hK:QV (λQx SK SQ Sw Qu=>#[.agg (vB B a1 a2 a3 c1 c2 c3),.s ki,.s pr,.p (w.1.size) 0,undef,undef,.l none 0 0,.i 0,.p (w1.1.size) 0,.p Bx 0,.agg (vB B a1 a2 a3 c1 c2 c3),.bool true,.bool false,.p (w.1.size) 2,.l a1 B.on c1,.s ki,.s pr,.func (.func 79) #[] #[.p (w1.1.size+1) 0,.p (w1.1.size+1+1) 0,.p (w1.1.size+1+1+1) 0],VT (B.os k.1) (A k.1) (C k.1),Qx,SK,SQ,Sw,Qu,undef,undef,undef]) (w1.1.size+4) w1.1.size Pk W B.os (I6 pre) k.1 v (A k.1) (C k.1) (l.setIfInBounds 0 true)=K;go_simp;rw[<-hK];exact⟨_,SK,SQ,Sw,Qu,w3,w4,CY,cap2,b2,v2,A2,C2,h2,rfl,KS,Zbx,Zby,Zbz,(λ_=>ki'),Zca,(λ_=>rfl),Zs,(by rw[kp 2 Zb];exact g0),Zw,(by rw[kp 2 Zb,kp 3 Zb];exact g1),Zx,(by rw[kp 3 Zb,kp 4 Zb];exact g2),Zy,(by rw[kp 4 Zb,kp 5 Zb];exact g4),(by rw[kp 5 Zb];exact g5)⟩
   .simp only[Ah,Ai,Af,AZ]at ho;subst ho;clear BJ;have l2:=Gk n21 FH;obtain rfl:=g0 l2;refine CN rfl rfl ?_;generalize hK:QV (λQx SK SQ Sw Qu=>#[.agg (vB B a1 a2 a3 c1 c2 c3),.s ki,.s pr,.p (w.1.size) 0,undef,undef,.l none 0 0,.i 0,.p (w1.1.size) 0,.p Bx 0,.agg (vB B a1 a2 a3 c1 c2 c3),.bool true,.bool false,.p (w.1.size) 2,.l a1 B.on c1,.s ki,.s pr,.func (.func 79) #[] #[.p (w1.1.size+1) 0,.p (w1.1.size+1+1) 0,.p (w1.1.size+1+1+1) 0],VT (B.os k.1) (A k.1) (C k.1),Qx,SK,SQ,Sw,Qu,undef,undef,undef]) (w1.1.size+4) w1.1.size Pk W B.os (I6 pre) k.1 v (A k.1) (C k.1) (l.setIfInBounds 1 true)=K;go_simp;rw[<-hK];exact⟨Qx,_,SQ,Sw,Qu,w3,w4,CY,cap2,b2,v2,A2,C2,h2,rfl,KS,(λ_=>ki'),Zby,Zbz,Zcb,Zca,Zu,(λ_=>rfl),(by rw[kp 2 Zb];exact g0),Zw,(by rw[kp 2 Zb,kp 3 Zb];exact g1),Zx,(by rw[kp 3 Zb,kp 4 Zb];exact g2),Zy,(by rw[kp 4 Zb,kp 5 Zb];exact g4),(by rw[kp 5 Zb];exact g5)⟩
   .simp only[Ah,Ai,Af,AZ]at ho;subst ho;have q1:l.getD 1 false=true:=BJ ⟨1,.data⟩ Ze rfl;clear BJ;obtain rfl:=f1 q1;obtain rfl:=g0 FH;have l3:=Gk uv FH;have l4:=Gk n43 l3;have l5:=Gk n54 l4;refine CN rfl rfl ?_;generalize hK:QV (λQx SK SQ Sw Qu=>#[.agg (vB B a1 a2 a3 c1 c2 c3),.s ki,.s pr,.p (w.1.size) 0,undef,undef,.l none 0 0,.i 0,.p (w1.1.size) 0,.p Bx 0,.agg (vB B a1 a2 a3 c1 c2 c3),.bool true,.bool false,.p (w.1.size) 2,.l a1 B.on c1,.s ki,.s pr,.func (.func 79) #[] #[.p (w1.1.size+1) 0,.p (w1.1.size+1+1) 0,.p (w1.1.size+1+1+1) 0],VT (B.os k.1) (A k.1) (C k.1),Qx,SK,SQ,Sw,Qu,undef,undef,undef]) (w1.1.size+4) w1.1.size Pk W B.os (I6 pre) k.1 v (A k.1) (C k.1) (l.setIfInBounds 2 true)=K;unfold VT;go_simp;refine(CallsIn.inRound l0 (Qv _ _ _ _ _ (Lr (B.os k.1) (A k.1) (C k.1) _ 0 hi (by exact hhW) (by exact My) (by exact hsW)))).mono ?_;rintro e w5 ⟨tq,cap5,b5,rfl,k1,k2,k3,k4⟩;rw[<-hK];exact⟨Qx,_,_,Sw,Qu,w5,w5,tq,cap5,b5,v2,A2,C2,h2,rfl,KS,(λ_=>by rw[kp 1 Zb];exact q1),(λ_=>ki'),Zbz,Zcb,Zca,Zu,Zs,(λh=>absurd (ki'.symm.trans h) Zb),(λ_=>⟨rfl,((Ap _ _).drew).trans k4,k1,k2,k3⟩),(λ_ _=>rfl),(λh=>by rw[kp 3 Zb,l3]at h;cases h),(λh=>by rw[kp 3 Zb,l3]at h;cases h),(λh=>by rw[kp 4 Zb,l4]at h;cases h),(λh=>by rw[kp 4 Zb,l4]at h;cases h),(λh=>by rw[kp 5 Zb,l5]at h;cases h)⟩
   .simp only[Ah,Ai,Af,AZ]at ho;subst ho;have q2:l.getD 2 false=true:=BJ ⟨2,.data⟩ Ze rfl;clear BJ;obtain⟨rfl,j1,j2,j3,j4⟩:=f2 q2;obtain rfl:w3=w':=(g1 q2 FH).symm;obtain rfl:=f1 (n21 q2);have l5:=Gk n54 (Gk n43 FH);have l4:=Gk n43 FH;refine CN rfl rfl ?_;generalize hK:QV (λQx SK SQ Sw Qu=>#[.agg (vB B a1 a2 a3 c1 c2 c3),.s ki,.s pr,.p (w.1.size) 0,undef,undef,.l none 0 0,.i 0,.p (w1.1.size) 0,.p Bx 0,.agg (vB B a1 a2 a3 c1 c2 c3),.bool true,.bool false,.p (w.1.size) 2,.l a1 B.on c1,.s ki,.s pr,.func (.func 79) #[] #[.p (w1.1.size+1) 0,.p (w1.1.size+1+1) 0,.p (w1.1.size+1+1+1) 0],VT (B.os k.1) (A k.1) (C k.1),Qx,SK,SQ,Sw,Qu,undef,undef,undef]) (w1.1.size+4) w1.1.size Pk W B.os (I6 pre) k.1 v (A k.1) (C k.1) (l.setIfInBounds 3 true)=K;unfold VT;go_simp;rw[<-hK];exact⟨Qx,_,_,_,Qu,w3,w4,CY,cap2,b2,v2,A2,C2,h2,rfl,KS,Zbx,(λ_=>by rw[kp 2 Zb];exact q2),(λ_=>ki'),Zcb,Zca,Zu,Zs,(λh=>by rw[kp 2 Zb,q2]at h;cases h),(by rw[kp 2 Zb];exact λ_=>⟨rfl,j1,j2,j3,j4⟩),(λ_ h=>absurd (ki'.symm.trans h) Zb),(λ_=>rfl),(λ_ _=>rfl),Zy,(λh=>by rw[kp 4 Zb,l4]at h;cases h),(λh=>by rw[kp 5 Zb,l5]at h;cases h)⟩
   .simp only[Ah,Ai,Af,AZ]at ho;subst ho;have q0:l.getD 0 false=true:=BJ ⟨0,.data⟩ Ze rfl;have q3:l.getD 3 false=true:=BJ ⟨3,.data⟩ Ze rfl;clear BJ;obtain rfl:v=Qx:=(f0 q0).symm;obtain rfl:=f3 q3;obtain rfl:=g2 q3 FH;obtain⟨rfl,j1,j2,j3,j4⟩:=f2 (uv q3);have l5:=Gk n54 FH;have z3:=j1.size;have BD1:=(bd.grow j1).grow (Ak w3 (.cells (vO (B.os k.1) CY cap2) 52));obtain⟨c,CG,DR⟩:=BD1.row;have hln:(I6 pre).length<1048576:=by rw[Mm];omega
    refine CN rfl rfl ?_;generalize hK:QV (λQx SK SQ Sw Qu=>#[.agg (vB B a1 a2 a3 c1 c2 c3),.s ki,.s pr,.p (w.1.size) 0,undef,undef,.l none 0 0,.i 0,.p (w1.1.size) 0,.p Bx 0,.agg (vB B a1 a2 a3 c1 c2 c3),.bool true,.bool false,.p (w.1.size) 2,.l a1 B.on c1,.s ki,.s pr,.func (.func 79) #[] #[.p (w1.1.size+1) 0,.p (w1.1.size+1+1) 0,.p (w1.1.size+1+1+1) 0],VT (B.os k.1) (A k.1) (C k.1),Qx,SK,SQ,Sw,Qu,undef,undef,undef]) (w1.1.size+4) w1.1.size Pk W B.os (I6 pre) k.1 v (A k.1) (C k.1) (l.setIfInBounds 4 true)=K;refine Km _ _ 23 rfl (w1.1.size+4) 52 i0 _ 7 96 underlying23 Fq GH C7 Fk rfl Zb _ (I6 pre).length (AN ((I6 pre).length*7) c) rfl CG ⟨w3.1.size,0,none⟩ 1 1 (Qz (B.os k.1) CY cap2) rfl rfl (DI w3 _ 52) kG Zl Za Zd ?_;intro v' w4' BH Bm If;have BD2:=BD1.push (cap':=cap2) DR BH Bm If (j4.frP (Aj (P:=λ_=>False) (Ak w3 _)) (λh0=>⟨λh=>h,j3 h0⟩)) (λh0=>⟨Za,by have:=j3 h0;simp;omega⟩)
     (λh0 e=>by obtain⟨c0,r0,_⟩:=bd.row;have h1:=(r0.lt _ e).2;omega)
     (λi hi' h0 h1 e=>by have h2:=(bd.hlt i hi' h0).2;omega);have By:∀g,v.ownBlock=some g->w1.1.size+4<=g:=λg hg=>by obtain⟨c0,r0,_⟩:=bd.row;exact(r0.lt _ hg).1
    have bx2:Boxed w4' w1.1.size 23 v:=(Fa bV j1).alloc _|>.kept Bm (λe=>by have:=By _ e.symm;omega);have kw2:KeepsOthers W w4':=((Fx j1).trans (KeepsOthers.alloc _ _)).trans (KeepsOthers.of_grownBy Bm (λj o e hj=>by
     rcases CG.2 with⟨h1,_⟩|⟨g',cap,cur,h1,h2',h3,h4⟩;.rw[h1]at e;cases e
     .rw[h1]at e;cases e;rw[h3]at hj;cases hj;rfl));have fr2:AB Pk W w4':=((Aj j1).trans (Aj (Ak w3 _))).trans ((BB Bm).mono (λq hq=>by rw[bN];exact Az (By q hq)));rw[<-hK];exact⟨_,SK,_,_,_,w3,w4',CY,cap2,b2,v',_,_,_,rfl,KS,Zbx,Zby,(λ_=>by rw[kp 3 Zb];exact q3),(λ_=>by rw[kp 0 Zb];exact q0),(λ_=>ki'),(λ_=>rfl),Zs,(λh=>by rw[kp 2 Zb,uv q3]at h;cases h),(by rw[kp 2 Zb];exact λ_=>⟨rfl,j1,j2,j3,j4⟩),(λ_ h=>by rw[kp 3 Zb,q3]at h;cases h),(λ_=>rfl),(λ_ h=>absurd (ki'.symm.trans h) Zb),(λ_=>⟨rfl,BD2,bx2,kw2,fr2⟩),(λ_ _=>rfl),(λh=>by rw[kp 5 Zb,l5]at h;cases h)⟩
   .simp only[Ah,Ai,Af,AZ]at ho;subst ho;have q4:l.getD 4 false=true:=BJ ⟨4,.data⟩ Ze rfl;clear BJ;obtain⟨rfl,j1,j2,j3,j4⟩:=f4 q4;obtain rfl:w4=w':=(g4 q4 FH).symm;have cb:=j2.cell;have fb:=j2.frozen;obtain⟨adx,capx,gx,ex,_,_⟩:=j1.done;obtain⟨Ln,hLn⟩:∃Ln,(I6 pre++[k.1]).length=Ln:=⟨_,rfl⟩;rw[hLn]at ex;subst ex;have y3:=n43 q4;have y2:=uv y3;obtain rfl:v=Qx:=(f0 (n40 q4)).symm;obtain rfl:=f1 (n21 y2);obtain rfl:=(f2 y2).1;obtain rfl:=f3 y3;refine CN rfl rfl ?_;generalize hK:QV (λQx SK SQ Sw Qu=>#[.agg (vB B a1 a2 a3 c1 c2 c3),.s ki,.s pr,.p (w.1.size) 0,undef,undef,.l none 0 0,.i 0,.p (w1.1.size) 0,.p Bx 0,.agg (vB B a1 a2 a3 c1 c2 c3),.bool true,.bool false,.p (w.1.size) 2,.l a1 B.on c1,.s ki,.s pr,.func (.func 79) #[] #[.p (w1.1.size+1) 0,.p (w1.1.size+1+1) 0,.p (w1.1.size+1+1+1) 0],VT (B.os k.1) (A k.1) (C k.1),Qx,SK,SQ,Sw,Qu,undef,undef,undef]) (w1.1.size+4) w1.1.size Pk W B.os (I6 pre) k.1 v (A k.1) (C k.1) (l.setIfInBounds 5 true)=K;go_simp;rw[<-hK];exact⟨_,_,_,_,_,w3,w4,CY,cap2,b2,_,A2,C2,h2,rfl,KS,Zbx,Zby,Zbz,Zcb,(λ_=>by rw[kp 4 Zb];exact q4),Zu,Zs,(λh=>by rw[kp 2 Zb,y2]at h;cases h),Zw,(λ_ h=>by rw[kp 3 Zb,y3]at h;cases h),Zx,(λ_ h=>by rw[kp 4 Zb,q4]at h;cases h),(by rw[kp 4 Zb];exact λ_=>⟨rfl,j1,j2,j3,j4⟩),(λ_ h=>absurd (ki'.symm.trans h) Zb),(λ_=>rfl)⟩
 case done=>
  rintro D ys W hD hS ⟨⟨v,A',C',hb,bV,bd⟩,hf⟩ hK;have bdf:Py (W.drew.putObj D (.deferred none)) (w1.1.size+4) v (I6 ys).length (CI B.os (I6 ys)) A' C' hb:=(bd.grow ((Ap _ _).drew)).turn (grownBy_putObj' W.drew D (.deferred none)) (λr e=>by cases e;exact⟨_,hK,rfl⟩);obtain⟨ad',cap',g,e,at',hq⟩:=bdf.done;rw[hS]at at' hq;have AT:=Ab at';have HQ:=Ab hq;have zW:=hf.size;have cV:=bV.cell;have H3:Gp W w.1.size (IH B a1 a2 a3 c1 c2 c3):=λi=>(hf.cell (p:=⟨w.1.size,i,none⟩) Zf ((MD _).2 (by show¬(w.1.size=_\/_<=w.1.size);omega))).trans (H0 i);obtain⟨p0,p1,p2,p3,p4⟩:=NM H3;have j9:Below w.1.size w W:=MU.trans (hf.below (λq hq=>(MD q).2 Za) Za);have hBf:Below w.1.size w (W.drew.putObj D (.deferred none)):=(j9.trans ((Ap _ _).drew)).trans (belowK_b (w:=W0) (n₀:=w.1.size) Za W.drew D _ _ hD hK rfl rfl);rw[hS]at e;subst e;clear at' hq bd bdf bV hS;gi_wp2;gi_region;all_goals gi_wp2
  all_goals refine⟨Ze,.inl ⟨_,_,rfl,run_takeDeferred hK,?_⟩⟩
  all_goals exact⟨.tuple #[.l ad' (Ku (λi=>Hv (B.os i) ki pr) B.on).length cap',.i B.v],by simp[results,results27,go_sem],ad',cap',g,A',C',hb,rfl,AT,λq hq=>AJ Za (HQ q hq),hBf⟩
 case stop=>rintro D c pre W _ _ h _;exact h.elim
attribute [local go_sem] Ct
def Dw (B:Bk)(ki pr:ByteArray):List Nat:=if Bj (ID B) 7 then Ku (λi=>Hv (B.os i) ki pr) B.on else[]
def Is (B:Bk):Int:=if Bj (ID B) 7 then B.v else 0
theorem Ud (w:World)(ad:OA)(g:Nat)(x:Nat->Ob)(A:Nat->Option Addr)(C hb:Nat->Nat):D4 w ad g 0 x A C hb:=⟨λh0=>absurd h0 (Bc _),λh0=>absurd h0 (Bc _),λ_i hi=>absurd hi (Ae _),λ_i hi=>absurd hi (Ae _),⟨λ_i hi=>absurd hi (Ae _),λ_i _j hi=>absurd hi (Ae _)⟩⟩
theorem cY{g:Nat}{q:Nat}(h:Fm g 0 hn hb q):False:=by
 rcases h with⟨h0,_⟩|⟨i,hi,_⟩;.exact absurd h0 (Bc _)
 .exact absurd hi (Ae _)
theorem US (B:Bk)(a1 a2 a3:OA)(c1 c2 c3:Nat)(ki pr:ByteArray)(w:World)(lo hi:Nat)(CD:hi<=w.1.size)(BG:BS B)(GJ:(B.on:Int)<=1048576)(LS:(pr.size:Int)<=140737488355328)(Cs:BL w lo hi B a1 a2 a3):Calls prog 27 #[.agg (vB B a1 a2 a3 c1 c2 c3),.s ki,.s pr] w λe w'=>∃ad' cap' g A C hb,e=.returned (.tuple #[.l ad' (Dw B ki pr).length cap',.i (Is B)])/\D4 w' ad' g (Dw B ki pr).length (CI B.os (Dw B ki pr)) A C hb/\(∀q,Fm g (Dw B ki pr).length (λi=>(CI B.os (Dw B ki pr) i).hn) hb q->w.1.size<=q)/\Below w.1.size w w':=by cases hv:Bj (ID B) 7 with
 |false=>
  have e1:Dw B ki pr=[]:=by simp[Dw,hv]
  have e2:Is B=0:=by simp[Is,hv]
  rw[e1,e2];refine(Q3 B a1 a2 a3 c1 c2 c3 ki pr w lo hi CD BG Cs hv).mono ?_;rintro e w' ⟨rfl,hb⟩;exact⟨none,0,0,λ_=>none,λ_=>0,λ_=>0,rfl,Ud _ _ _ _ _ _ _,λq hq=>(cY hq).elim,hb⟩
 |true=>
  have e1:Dw B ki pr=Ku (λi=>Hv (B.os i) ki pr) B.on:=by simp[Dw,hv]
  have e2:Is B=B.v:=by simp[Is,hv]
  rw[e1,e2];exact callsIn_wide.1 (RL Fence.wide 9 (λ_ _ _ _ _ h=>callsIn_wide.2 h) trivial trivial trivial trivial trivial trivial rfl Zb B a1 a2 a3 c1 c2 c3 ki pr w lo hi CD BG GJ LS Cs hv)
theorem O4 (B:Bk)(a1 a2 a3:OA)(c1 c2 c3:Nat)(ki pr:ByteArray)(w:World)(lo hi:Nat)(CD:hi<=w.1.size)(BG:BS B)(GJ:(B.on:Int)<=1048576)(LS:(pr.size:Int)<=140737488355328)(Cs:BL w lo hi B a1 a2 a3):Calls prog 28 #[.agg (vB B a1 a2 a3 c1 c2 c3),.s ki,.s pr] w λe w'=>∃ad' cap' g A C hb,e=.returned (.tuple #[.l ad' (Dw B ki pr).length cap',.i (Is B)])/\D4 w' ad' g (Dw B ki pr).length (CI B.os (Dw B ki pr)) A C hb/\(∀q,Fm g (Dw B ki pr).length (λi=>(CI B.os (Dw B ki pr) i).hn) hb q->w.1.size<=q)/\Below w.1.size w w':=by cases hv:Bj (ID B) 7 with
 |false=>have ii:=Ab (show Dw B ki pr=[]by simp[Dw,hv]);have iu:=Ab (show Is B=0 by simp[Is,hv]);go_enter func28,ntmps28;go_wp2_with (go_at_call 34;go_must(refine(EE B a1 a2 a3 c1 c2 c3 _ lo hi Zd BG (Cs.below Do CD)).mono ?_;rw[hv];rintro e w1 ⟨rfl,AU⟩));refine bodyPost_ret (v:=.tuple #[.l (some ⟨w1.1.size,0,none⟩) 0 0,.i 0]) (by simp[results,results28,go_sem]) rfl ?_;rw[ii.out,iu.out];exact⟨_,_,0,λ_=>none,λ_=>0,λ_=>0,rfl,Ud _ _ _ _ _ _ _,λq hq=>(cY hq).elim,((Ak _ _).trans (AU.mono Ze)).alloc Zas _⟩
 |true=>
  have ii:=Ab (show Dw B ki pr=Ku (λi=>Hv (B.os i) ki pr) B.on by simp[Dw,hv]);have iu:=Ab (show Is B=B.v by simp[Is,hv]);go_enter func28,ntmps28;go_wp2_with (go_at_call 34;go_must(refine(EE B a1 a2 a3 c1 c2 c3 _ lo hi Zd BG (Cs.below Do CD)).mono ?_;rw[hv];rintro e w1 ⟨rfl,AU⟩));have H1:=(E5 w (IH B a1 a2 a3 c1 c2 c3) 36).below AU Ze;obtain⟨p0,p1,p2,p3,p4⟩:=NM H1;have ZB:Below w.1.size w w1:=(Ak _ _).trans (AU.mono Ze);have zw1:w.1.size<w1.1.size:=by have:=AU.size;simp at this;omega
  clear AU;go_region_with(go_at_call 54;go_must(refine(Vg B.on B.os a1 c1 ki pr _ lo hi (by have:=ZB.size;simp;omega) GJ LS BG.os (Cs.o.below (ZB.trans ((Ap _ _).drew)) CD)).mono ?_;rintro e w2 ⟨ad',cap',g,A,C,hb,rfl,at',hq,BT⟩;have q0:=(BT.cell (p:=⟨w.1.size,0,none⟩) (by exact zw1)).trans p0;have HA:=Ab at';have HQ:=Ab hq;clear at' hq));all_goals go_wp2
  all_goals refine bodyPost_ret (v:=.tuple #[.l ad' (Ku (λi=>Hv (B.os i) ki pr) B.on).length cap',.i B.v]) (by simp[results,results28,go_sem]) rfl ?_
  all_goals rw[ii.out,iu.out]
  all_goals exact⟨ad',cap',g,A,C,hb,rfl,HA,λq hq=>AJ ZB.size (HQ q hq),(ZB.trans ((Ap _ _).drew)).trans (BT.mono ZB.size)⟩
theorem Z3 (B:Bk)(a1 a2 a3:OA)(c1 c2 c3:Nat)(ki pr:ByteArray)(n:Nat)(y:Nat->Ob)(nw:Int)(hn:(Dw B ki pr).length=n)(hy:CI B.os (Dw B ki pr)=y)(hN:Is B=nw)(w:World)(lo hi:Nat)(CD:hi<=w.1.size)(BG:BS B)(GJ:(B.on:Int)<=1048576)(LS:(pr.size:Int)<=140737488355328)(Cs:BL w lo hi B a1 a2 a3):Calls prog 27 #[.agg (vB B a1 a2 a3 c1 c2 c3),.s ki,.s pr] w λe w'=>∃ad' cap' g A C hb,e=.returned (.tuple #[.l ad' n cap',.i nw])/\D4 w' ad' g n y A C hb/\(∀q,Fm g n (λi=>(y i).hn) hb q->w.1.size<=q)/\Below w.1.size w w':=by subst hn;subst hy;subst hN;exact US B a1 a2 a3 c1 c2 c3 ki pr w lo hi CD BG GJ LS Cs
theorem ZW (B:Bk)(a1 a2 a3:OA)(c1 c2 c3:Nat)(ki pr:ByteArray)(n:Nat)(y:Nat->Ob)(nw:Int)(hn:(Dw B ki pr).length=n)(hy:CI B.os (Dw B ki pr)=y)(hN:Is B=nw)(w:World)(lo hi:Nat)(CD:hi<=w.1.size)(BG:BS B)(GJ:(B.on:Int)<=1048576)(LS:(pr.size:Int)<=140737488355328)(Cs:BL w lo hi B a1 a2 a3):Calls prog 28 #[.agg (vB B a1 a2 a3 c1 c2 c3),.s ki,.s pr] w λe w'=>∃ad' cap' g A C hb,e=.returned (.tuple #[.l ad' n cap',.i nw])/\D4 w' ad' g n y A C hb/\(∀q,Fm g n (λi=>(y i).hn) hb q->w.1.size<=q)/\Below w.1.size w w':=by subst hn;subst hy;subst hN;exact O4 B a1 a2 a3 c1 c2 c3 ki pr w lo hi CD BG GJ LS Cs
structure Mr where
 k:ByteArray
 pre:ByteArray
 d:Int
 n:Nat
 os:Nat->Ob
 s:Int
abbrev vM (x:Mr)(A:OA)(C:Nat):Array Value:=#[.s x.k,.s x.pre,.i x.d,.l A x.n C,.i x.s]
abbrev vMl (x:Mr)(A:OA)(C:Nat):List Value:=[.s x.k,.s x.pre,.i x.d,.l A x.n C,.i x.s]
theorem Md (B:Bk)(a1 a2 a3:OA)(c1 c2 c3:Nat)(m:Mr)(a:OA)(c:Nat)(n:Nat)(y:Nat->Ob)(nw:Int)(hn:(Dw B m.k m.pre).length=n)(hy:CI B.os (Dw B m.k m.pre)=y)(hN:Is B=nw)(w:World)(lo hi:Nat)(CD:hi<=w.1.size)(BG:BS B)(GJ:(B.on:Int)<=1048576)(LS:(m.pre.size:Int)<=140737488355328)(Cs:BL w lo hi B a1 a2 a3):Calls prog 11 #[.agg (vB B a1 a2 a3 c1 c2 c3),.agg #[.s m.k,.s m.pre,.i m.d,.l a m.n c,.i m.s]] w λe w'=>∃ad' cap' g A C hb,e=.returned (.agg #[.s m.k,.s m.pre,.i nw,.l ad' n cap',.i m.s])/\D4 w' ad' g n y A C hb/\(∀q,Fm g n (λi=>(y i).hn) hb q->w.1.size<=q)/\Below w.1.size w w':=by
 have HI:=Ab Cs;have HN:=Ab hn;have HY:=Ab hy;have HW:=Ab hN;clear Cs hn hy hN;go_enter func11,ntmps11;go_wp2_with fail;refine(Z3 B a1 a2 a3 c1 c2 c3 m.k m.pre n y nw HN HY HW _ lo hi Zd BG GJ LS (HI.below (B:=w.1.size) ((((Ap _ _).alloc A9 _).alloc Ze _).alloc Zd _) CD)).mono ?_;rintro e w1 ⟨adw,cw,g,A,C,hb,rfl,uf,GM,AU⟩;have Fp:Below w.1.size w w1:=((((Ap _ _).alloc A9 _).alloc Ze _).alloc Zd _).trans (AU.mono Zd);have C7:w.1.size+2<w1.1.size:=by have:=AU.size;simp at this;omega
 obtain⟨A0,A1,A2,F1,F2⟩:=BI AU;obtain⟨p0,p1,p2,p3,p4⟩:=Oo A1;obtain⟨o0,o1,o2,o3,o4⟩:=Oo A2;simp only[Av]at GM;have AT:=Ab uf;have HQ:=Ab GM;clear A0 A1 A2 AU uf GM;go_wp2;refine bodyPost_ret (v:=.agg #[.s m.k,.s m.pre,.i nw,.l adw n cw,.i m.s]) (by simp[results,results11,go_sem,o0,o1,o2,o3,o4]) rfl ?_;refine⟨adw,cw,g,A,C,hb,rfl,AT.fr (P:=λq=>q=w.1.size+1\/q=w.1.size+1+1) ?_ (λq hq e=>by have:=HQ q hq;omega),λq hq=>by have:=HQ q hq;omega,?_⟩
 .iterate 7 refine AB.setCell (P:=λq=>q=w.1.size+1\/q=w.1.size+1+1) ?_ Ze _
  exact AB.refl _ _
 .iterate 7 refine Bs ?_ XP _
  exact Fp
theorem R8 (m:Mr)(a:OA)(c:Nat)(w:World)(lo hi:Nat)(CD:hi<=w.1.size)(hl:(m.n:Int)<=1048576)(hf:∀i,i<m.n->Cu (m.os i))(hc:Bh w lo hi a m.n m.os):Calls prog 21 #[.agg #[.s m.k,.s m.pre,.i m.d,.l a m.n c,.i m.s]] w λe w'=>∃ad' cap' g A C hb,e=.returned (.agg #[.s m.k,.s m.pre,.i m.d,.l ad' m.n cap',.i m.s])/\D4 w' ad' g m.n m.os A C hb/\(∀q,Fm g m.n (λi=>(m.os i).hn) hb q->w.1.size<=q)/\Below w.1.size w w':=by
 have HI:=Ab hc;clear hc;go_enter func21,ntmps21;go_wp2_with fail;refine(Pp m.n m.os a c _ lo hi Zd hl hf (HI.below (B:=w.1.size) (((Ap _ _).alloc A9 _).alloc Ze _) CD)).mono ?_;rintro e w1 ⟨adw,cw,g,A,C,hb,rfl,uf,GM,AU⟩;have Fp:Below w.1.size w w1:=(((Ap _ _).alloc A9 _).alloc Ze _).trans (AU.mono Zd);have C7:w.1.size+1<w1.1.size:=by have:=AU.size;simp at this;omega
 obtain⟨A0,A1,F0,F1⟩:=Sk AU;obtain⟨p0,p1,p2,p3,p4⟩:=Oo A0;obtain⟨o0,o1,o2,o3,o4⟩:=Oo A1;simp only[Av]at GM;have AT:=Ab uf;have HQ:=Ab GM;clear A0 A1 AU uf GM;go_wp2;refine bodyPost_ret (v:=.agg #[.s m.k,.s m.pre,.i m.d,.l adw m.n cw,.i m.s]) (by simp[results,results21,go_sem,o0,o1,o2,o3,o4]) rfl ?_;refine⟨adw,cw,g,A,C,hb,rfl,AT.fr (P:=λq=>q=w.1.size\/q=w.1.size+1) ?_ (λq hq e=>by have:=HQ.out.1 q hq;omega),λq hq=>by have:=HQ.out.1 q hq;omega,?_⟩
 .iterate 6 refine AB.setCell (P:=λq=>q=w.1.size\/q=w.1.size+1) ?_ Ze _
  exact AB.refl _ _
 .iterate 6 refine Bs ?_ XP _
  exact Fp
theorem Jt (B:Bk)(a1 a2 a3:OA)(c1 c2 c3:Nat)(m:Mr)(a:OA)(c:Nat)(n:Nat)(y:Nat->Ob)(nw:Int)(hn:(Dw B m.k m.pre).length=n)(hy:CI B.os (Dw B m.k m.pre)=y)(hN:Is B=nw)(w:World)(lo hi:Nat)(CD:hi<=w.1.size)(BG:BS B)(GJ:(B.on:Int)<=1048576)(LS:(m.pre.size:Int)<=140737488355328)(Cs:BL w lo hi B a1 a2 a3)(hl:(m.n:Int)<=1048576)(hmf:∀i,i<m.n->Cu (m.os i))(hmc:Bh w lo hi a m.n m.os):Calls prog 12 #[.agg (vB B a1 a2 a3 c1 c2 c3),.agg #[.s m.k,.s m.pre,.i m.d,.l a m.n c,.i m.s]] w λe w'=>∃ad' cap' g A C hb,e=.returned (.agg #[.s m.k,.s m.pre,.i nw,.l ad' n cap',.i m.s])/\D4 w' ad' g n y A C hb/\(∀q,Fm g n (λi=>(y i).hn) hb q->w.1.size<=q)/\Below w.1.size w w':=by
 have HI:=Ab Cs;have HN:=Ab hn;have HY:=Ab hy;have HW:=Ab hN;have HM:=Ab hmc;clear Cs hn hy hN hmc;go_enter func12,ntmps12;go_wp2_with fail;refine(R8 m a c _ lo hi Zd hl hmf (HM.below (B:=w.1.size) ((((Ap _ _).alloc A9 _).alloc Ze _).alloc Zd _) CD)).mono ?_;rintro e w0 ⟨Sv,d0,g0,A0',C0',Ajw,rfl,_,_,FV⟩;have MU:Below w.1.size w w0:=((((Ap _ _).alloc A9 _).alloc Ze _).alloc Zd _).trans (FV.mono Zd);have GH:w.1.size+2<w0.1.size:=by have:=FV.size;simp at this;omega
 obtain⟨A0,A1,A2,F1,F2⟩:=BI FV;obtain⟨k0,k1,k2,k3,k4⟩:=Oo A0;have p0:=A1 0;have p1:=A1 1;simp only[Ah,Ai,Af]at p0 p1;obtain⟨o0,o1,o2,o3,o4⟩:=Oo A2;clear A0 A1 A2 FV F1;have KB:=Ak w0 (.cells #[.s m.k,.s m.pre,.i m.d,.l Sv m.n d0,.i m.s] 25);have k0:=(KB.cell (p:=⟨w.1.size,0,none⟩) Zf).trans k0;have k1:=(KB.cell (p:=⟨w.1.size,1,none⟩) Zf).trans k1;have k2:=(KB.cell (p:=⟨w.1.size,2,none⟩) Zf).trans k2;have k3:=(KB.cell (p:=⟨w.1.size,3,none⟩) Zf).trans k3;have k4:=(KB.cell (p:=⟨w.1.size,4,none⟩) Zf).trans k4;have p0:=(KB.cell (p:=⟨w.1.size+1,0,none⟩) Zn).trans p0;have p1:=(KB.cell (p:=⟨w.1.size+1,1,none⟩) Zn).trans p1;clear KB;go_wp2_with fail;refine(ZW B a1 a2 a3 c1 c2 c3 m.k m.pre n y nw HN HY HW _ lo hi Zd BG GJ LS (HI.below (B:=w.1.size) (MU.alloc MU.size _) CD)).mono ?_;rintro e w1 ⟨adw,cw,g,A,C,hb,rfl,uf,GM,AU⟩;have Fp:Below w.1.size w w1:=(MU.alloc MU.size _).trans (AU.mono Zd);have C7:w0.1.size<w1.1.size:=by have:=AU.size;simp at this;omega
 have x0:=Ay AU 0;have x1:=Ay AU 1;have x2:=Ay AU 2;have x3:=Ay AU 3;have x4:=Ay AU 4;simp only[Ah,Ai,Af]at x0 x1 x2 x3 x4;have fx:∀i,w1.frozen? ⟨w0.1.size,i,none⟩=false:=λi=>(AU.frozen (p:=⟨w0.1.size,i,none⟩) Ze).trans (by rw[De _ _ _ _ rfl]);have b01:Below w0.1.size w0 w1:=(Ak _ _).trans (AU.mono Ze);have o0:=(b01.cell (p:=⟨w.1.size+1+1,0,none⟩) Zk).trans o0;have o1:=(b01.cell (p:=⟨w.1.size+1+1,1,none⟩) Zk).trans o1;have o2:=(b01.cell (p:=⟨w.1.size+1+1,2,none⟩) Zk).trans o2;have o3:=(b01.cell (p:=⟨w.1.size+1+1,3,none⟩) Zk).trans o3;have o4:=(b01.cell (p:=⟨w.1.size+1+1,4,none⟩) Zk).trans o4;have fo:∀i,w1.frozen? ⟨w.1.size+1+1,i,none⟩=false:=λi=>(b01.frozen (p:=⟨w.1.size+1+1,i,none⟩) Zk).trans (F2 i);simp only[Av]at GM;have AT:=Ab uf;have HQ:=Ab GM;have CF:¬w.1.size+1+1=w0.1.size:=Za;have Ajz:¬w0.1.size=w.1.size+1+1:=Za;clear k0 k1 k2 k3 k4 p0 p1 AU uf GM F2;go_wp2;refine bodyPost_ret (v:=.agg #[.s m.k,.s m.pre,.i nw,.l adw n cw,.i m.s]) (by simp[results,results12,go_sem,o0,o1,o2,o3,o4]) rfl ?_;refine⟨adw,cw,g,A,C,hb,rfl,AT.fr (P:=λq=>q=w0.1.size\/q=w.1.size+1+1) ?_ (λq hq e=>by have:=HQ q hq;omega),λq hq=>by have:=HQ q hq;omega,?_⟩
 .iterate 7 refine AB.setCell (P:=λq=>q=w0.1.size\/q=w.1.size+1+1) ?_ Ze _
  exact AB.refl _ _
 .iterate 7 refine Bs ?_ XP _
  exact Fp
def RU (n:Nat)(x:Nat->Ch):Bool:=Bj (λi=>i==0||decide ((x (i-1)).t<(x i).t)) n
theorem U8 (x z:Ch)(ad CY:OA)(cap cap2:Nat)(w:World):Calls prog 39 #[.agg (vH x ad cap),.agg (vH z CY cap2)] w λe w'=>e=.returned (.bool (decide (x.t<z.t)))/\Below w.1.size w w':=by have HB:=Ab (show∀o1 o2:Obj,Below w.1.size w ((w.alloc o1).alloc o2)from λo1 o2=>(AC _ _).alloc Ze _);go_enter func39,ntmps39;go_wp2;go_ret;exact⟨rfl,HB _ _⟩
theorem iX (n:Nat)(x:Nat->Ch)(ad:OA)(cap:Nat)(w:World)(lo hi:Nat)(CD:hi<=w.1.size)(hl:(n:Int)<=140737488355328)(hc:Dv w lo hi ad n x):Calls prog 38 #[.l ad n cap,.func (.func 39) #[] #[]] w λe w'=>e=.returned (.bool (RU n x))/\Below w.1.size w w':=by
 go_enter func38,ntmps38;go_wp2;go_loopw[5](λi wr=>∃k:Nat,1<=k/\(k<=n\/k=1)/\i=.i k/\(∀j,j<k->(j==0||decide ((x (j-1)).t<(x j).t))=true)/\Below w.1.size w wr)(λi _=>n-(intOf i).toNat);case atStart=>exact⟨1,AG _,Az rfl,rfl,λj hj=>(by have:j=0:=Za;subst this;rfl),Ap _ _⟩
 case round=>
  obtain⟨k,pH,hk,rfl,Bg,hb⟩:=hrel;by_cases B7:k<n
  .obtain⟨m,rfl⟩:∃m,k=m+1:=⟨k-1,Za⟩;obtain⟨b,off,ah,ch,rfl,Gc,Ja,Dh,_⟩:=hc (m+1) B7;obtain⟨b',off',ah',ch',e,_,SH,We,_⟩:=hc m Za;cases e;obtain⟨d0,d1,d2,d3,d4,d5,d6,d7,d8⟩:=Dh.below hb Za;obtain⟨q0,q1,q2,q3,q4,q5,q6,q7,q8⟩:=We.below hb Za;have Gr:b<wr.1.size:=by have:=hb.size;omega
   have rd0:=Aq d0 Gr;have rd1:=Aq d1 Gr;have rd2:=Aq d2 Gr;have rd3:=Aq d3 Gr;have rd4:=Aq d4 Gr;have rd5:=Aq d5 Gr;have rd6:=Aq d6 Gr;have rd7:=Aq d7 Gr;have rd8:=Aq d8 Gr;have rq0:=Aq q0 Gr;have rq1:=Aq q1 Gr;have rq2:=Aq q2 Gr;have rq3:=Aq q3 Gr;have rq4:=Aq q4 Gr;have rq5:=Aq q5 Gr;have rq6:=Aq q6 Gr;have rq7:=Aq q7 Gr;have rq8:=Aq q8 Gr;have CF:Nonempty (GW wr):=⟨⟨wr,Ap _ _⟩⟩;have HA:=Ab Bg;have tt:(m:Int)+1<=n:=Za;clear Bg hc hk Dh We d0 d1 d2 d3 d4 d5 d6 d7 d8 q0 q1 q2 q3 q4 q5 q6 q7 q8;obtain⟨bb,hlt⟩:∃bb,decide ((x m).t<(x (m+1)).t)=bb:=⟨_,rfl⟩;have Io:∀W,Calls prog 39 #[.agg (vH (x m) ah' ch'),.agg (vH (x (m+1)) ah ch)] W λe w'=>e=.returned (.bool bb)/\Below W.1.size W w':=λW=>by have:=U8 (x m) (x (m+1)) ah' ah ch' ch W;rw[hlt]at this;exact this
   have HL:=Ab hlt;have HCL:=Ab Io;clear hlt Io;cases bb with
   |false=>
    have HE:=Ab (show RU n x=false from Bd (p:=λi=>i==0||decide ((x (i-1)).t<(x i).t)) B7 (by simpa using HL.out));go_wp2;refine AP Zc Zc ?_;repeat(go_big_quiet_step((go_at_call 39;go_must(exact B4 (HCL _)))))
    exact vG
   |true=>
    have HN:=Ab (show(m+1==0||decide ((x (m+1-1)).t<(x (m+1)).t))=true by simpa using HL.out);go_wp2;refine AP Zc Zc ?_;repeat(go_big_quiet_step((go_at_call 39;go_must(exact B4 (HCL _)))))
    exact Acz
  .have HE:=Ab (show RU n x=true from AS.2 (λj hj=>Bg j Za));clear Bg;exact PI
def Mp (at_ cd fv:Int)(n:Nat)(x:Nat->Ch):Int:=if cd=0 then(if fv<at_\/RU n x=false then 2 else 0)else 1
theorem UR (m:Mr)(a:OA)(c:Nat)(cd fv:Int)(n:Nat)(x:Nat->Ch)(an:OA)(cn:Nat)(w:World)(lo hi:Nat)(CD:hi<=w.1.size)(hl:(n:Int)<=140737488355328)(hc:Dv w lo hi an n x):Calls prog 18 #[.agg #[.s m.k,.s m.pre,.i m.d,.l a m.n c,.i m.s],.agg #[.i cd,.l an n cn,.i fv]] w λe w'=>e=.returned (.i (Mp m.d cd fv n x))/\Below w.1.size w w':=by
 have hB:∀o1 o2:Obj,Below w.1.size w ((w.alloc o1).alloc o2):=λo1 o2=>(AC _ _).alloc Ze _;have HB:=Ab hB;have HC:=Ab hc;clear hB hc;obtain⟨r,hr⟩:∃r,Mp m.d cd fv n x=r:=⟨_,rfl⟩;have HR:=Ab hr;rw[hr];clear hr;by_cases h0:cd=0
 .subst h0;by_cases h1:fv<m.d
  .obtain rfl:r=2:=by have:=HR.out;simp[Mp,h1]at this;omega
   go_enter func18,ntmps18;go_wp2;go_ret;exact⟨rfl,HB _ _⟩
  .cases hA:RU n x with
   |true=>
    obtain rfl:r=0:=by have:=HR.out;simp[Mp,h1,hA]at this;omega
    exact g_
   |false=>
    obtain rfl:r=2:=by have:=HR.out;simp[Mp,h1,hA]at this;omega
    exact g_
 .obtain rfl:r=1:=by have:=HR.out;simp[Mp,h0]at this;omega
  have h0b:(cd==0)=false:=by simpa using h0
  go_enter func18,ntmps18;go_wp2;go_ret;exact⟨rfl,HB _ _⟩
theorem E8.fr (h:E8 w b c)(hf:AB P w w1)(hp:¬P b):E8 w1 b c:=⟨λi=>(hf.cell (p:=⟨b,i,none⟩) h.lt hp).trans (h.cell i),λi=>(hf.frozen (p:=⟨b,i,none⟩) h.lt hp).trans (h.free i),Aa h.lt hf.size⟩
theorem E8.set{j:Nat}(h:E8 w b c)(hj:j<c.size)(u:Value):E8 (w.setCell ⟨b,j,none⟩ u) b (c.setIfInBounds j u):=by
 refine⟨λi=>?_,λi=>by rw[Fs];exact h.free i,by rw[Be];exact h.lt⟩;by_cases e:i=j;.subst e;have hc:=h.cell i;rw[FL hj]at hc;rw[Cd _ _ _ hc];simp[hj]
 .rw[AI _ _ _ _ (λq=>e (by injection q with _ q2;exact q2.symm)),h.cell i,Array.getElem?_setIfInBounds_ne (λq=>e q.symm)]
structure Xp (w:World)(R:Nat)(v:Value):Prop where
 cell:w.cell? ⟨R,0,none⟩=some v
 free:w.frozen? ⟨R,0,none⟩=false
 lt:R<w.1.size
theorem Xp.fr (h:Xp w R v)(hf:AB P w w1)(hp:¬P R):Xp w1 R v:=⟨(hf.cell (p:=⟨R,0,none⟩) h.lt hp).trans h.cell,(hf.frozen (p:=⟨R,0,none⟩) h.lt hp).trans h.free,Aa h.lt hf.size⟩
theorem Xp.below (h:Xp w R v)(hb:Below w.1.size w w1):Xp w1 R v:=h.fr (Aj (P:=λ_=>False) hb) (λh=>h)
structure TS where
 d:Int
 s:Int
 l:List Ob
def FJ (c:Ch)(s:TS):TS:=if c.t<=s.d then s else⟨c.t,wrap64 (s.s+1),K3 c.ob c.g s.l⟩
def Et (s:TS)(x:Nat->Ch):Nat->TS|0=>s|i+1=>FJ (x i) (Et s x i)
end Go.Proofs.YtdknjmgdgnmhjaaGreat
