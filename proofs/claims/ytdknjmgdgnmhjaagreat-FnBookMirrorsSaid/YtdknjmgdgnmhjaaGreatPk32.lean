import Derived.Test.YtdknjmgdgnmhjaaGreatPk31
set_option maxRecDepth 100000
set_option maxHeartbeats 2000000
namespace Go.Proofs.YtdknjmgdgnmhjaaGreat
open Go.RowKit Go.Maps Go.Shelf Go.Proofs.Tryz
variable {L K:List EO}{e:EO}{i n g j:Nat}{w:World}{x:Nat→Ob}{A:Nat→Option Addr}{C hb:Nat→Nat}{P:Program}{kp:EO→Bool}{ops:Array Oper}{Q:Exit→Act→World→Prop}
attribute [local go_sem] Ct
theorem S0 (n:Nat)(x:Nat->Ob)(a:OA)(c:Nat)(w:World)(lo hi:Nat)(CD:hi<=w.1.size)(hn:(n:Int)<=1099511627776)(hf:∀i,i<n->Cu (x i))(hc:Bh w lo hi a n x):Calls prog 17 #[.l a n c] w λe w'=>∃ad' cap' g A C hb,e=.returned (.l ad' n cap')/\(cap'=n/\(n=0->ad'=none))/\D4 w' ad' g n x A C hb/\(∀q,Fm g n (λi=>(x i).hn) hb q->w.1.size<=q)/\Below w.1.size w w':=by
 obtain⟨co,Ao,Co,so,ato,sto⟩:=hc.src;have SO:=Ab so;have AO:=Ab ato;have HO:=Ab sto;have F4:=Ab hf;clear so ato sto hc hf;go_enter func17,ntmps17;go_wp2_with fail;refine(UH n co a c _ lo hi CD Za SO).mono ?_;rintro e w1 ⟨Ka,d1,rfl,Mx,PT,AU⟩;have HCP:=Ab Mx;clear Mx;have kh:=Ab PT;have B1:=AU;have j0:Hid (0<n->Ka=some ⟨w.1.size,0,none⟩):=λh0=>(kh h0).1;have cp0:Ve w1 w.1.size n 0 x Ao Ao Co (λ_=>0):=⟨λh0=>⟨co,(kh h0).2,AO⟩,λ_ _ _=>rfl,λi hi=>absurd hi (Ae _),λi hi=>absurd hi (Ae _),λi j hi=>absurd hi (Ae _)⟩;clear PT AU;go_wp2;go_loopw[10](λi wr=>∃(k:Nat)(A:Nat->Option Addr)(C hb:Nat->Nat),k<=n/\i=.i k/\Below w.1.size w wr/\Ve wr w.1.size n k x Ao A C hb)(λi _=>n-(intOf i).toNat);case atStart=>exact⟨0,_,_,_,Ar _,rfl,B1,cp0⟩
 case round=>
  obtain⟨k,A,C,hb,hk,rfl,b0,cp⟩:=hrel;clear cp0;by_cases B7:k<n
  .obtain⟨c,rr,DR⟩:=cp.row Za;have hA:=j0 Za;subst hA;obtain⟨t0,t1,t2,t3,t4,t5,t6⟩:=DR k B7;have d0:=(rr.cell (k*7) Za).trans (congrArg some t0);have d1:=(rr.cell (k*7+1) Za).trans (congrArg some t1);have d2:=(rr.cell (k*7+2) Za).trans (congrArg some t2);have d3:=(rr.cell (k*7+3) Za).trans (congrArg some t3);have d4:=(rr.cell (k*7+4) Za).trans (congrArg some t4);have d5:=(rr.cell (k*7+5) Za).trans (congrArg some t5);have d6:=(rr.cell (k*7+6) Za).trans (congrArg some t6);have Mu:=HO k B7;rw[<-cp.src k A9 B7]at Mu;have HSR:=Ab Mu;have My:((x k).hn:Int)<=8796093022208:=(F4 k B7).h;have CP:=Ab cp;have RR:=Ab rr;have hwz:w.1.size<wr.1.size:=rr.lt;clear t0 t1 t2 t3 t4 t5 t6 Mu cp rr DR;go_wp2_with (go_at_call 37;go_must(refine(Lr (x k) (A k) (C k) _ lo hi Zd My (by exact HSR.below (b0.alloc b0.size _) CD)).mono ?_;rintro e w2 ⟨ad',cap',b',rfl,hb',MV,ho',BT⟩;have C6:Below wr.1.size wr w2:=((Ak _ _).trans (BT.mono Ze));have rg:=RR.below C6 RR.lt;have s0:=rg.cell (k*7) Za;have s1:=rg.cell (k*7+1) Za;have s2:=rg.cell (k*7+2) Za;have s3:=rg.cell (k*7+3) Za;have s4:=rg.cell (k*7+4) Za;have s5:=rg.cell (k*7+5) Za;have s6:=rg.cell (k*7+6) Za;have sf:=rg.free;have Gj:=Ab C6;have HOO:=Ab ho';have HLT:=Ab MV;have HBP:=Ab hb';clear rg C6 ho' MV hb' BT));have hbb:wr.1.size<=b':=by have:=HBP.out;simp at this;omega
   have CPP:=Ab (CP.put B7 Gj (cap':=cap') hbb HLT HOO);have YG:=Gj.size;clear s0 s1 s2 s3 s4 s5 s6 sf d0 d1 d2 d3 d4 d5 d6;go_roundw;case rel=>
    refine⟨k+1,_,_,_,Za,by go_num,?_,CPP⟩;iterate 7 refine Bs ?_ Ze _
    exact b0.trans (Gj.mono Za)
   case measure=>simp[intOf];omega
  .have rN:k=n:=Za;subst rN;have CPO:=Ab cp;clear cp;go_wp2;go_ret;exact⟨Ka,d1,w.1.size,A,C,hb,rfl,HCP,CPO.done j0,λq hq=>(CPO.rng hq).1,b0⟩
theorem NS (h:e∈L):∃i,i<L.length/\Ii L i=e:=by obtain⟨i,hi,rfl⟩:=List.mem_iff_getElem.1 h;exact⟨i,hi,LZ hi⟩
theorem ay (h:i<K.length):Ii (K++L) i=Ii K i:=by simp[Ii,I7 h]
theorem iM:Ii (K++L) (K.length+i)=Ii L i:=by simp[Ii,Nk]
theorem G0.sub (h:G0 w L)(hs:K.Sublist L):G0 w K:=⟨λe he=>h.hold e (hs.subset he),λe he=>h.lt e (hs.subset he),h.ap.sublist hs⟩
theorem jV (h:G0 w (K++L))(ho:BA w e.hb (e.hb+1) e.A e.ob.hn e.ob.hs)(hl:e.ob.hn≠0->e.hb<w.1.size)(CF:∀f,f∈K++L->e.ob.hn≠0->f.ob.hn≠0->e.hb≠f.hb):G0 w (K++e::L):=by
 have hm:∀f,f∈K++e::L->f=e\/f∈K++L:=λf hf=>by
  rcases List.mem_append.1 hf with h1|h1;.exact Az (List.mem_append_left _ h1)
  .rcases CU.1 h1 with h2|h2;.exact AA h2
   .exact Az (List.mem_append_right _ h2)
 refine⟨λf hf=>?_,λf hf=>?_,?_⟩
 .rcases hm f hf with rfl|h1;.exact ho
  .exact h.hold f h1
 .rcases hm f hf with rfl|h1;.exact hl
  .exact h.lt f h1
 .obtain⟨p1,p2,p3⟩:=List.pairwise_append.1 h.ap;refine List.pairwise_append.2 ⟨p1,Nl.2 ⟨λf hf=>CF f (List.mem_append_right _ hf),p2⟩,λa ha b hb=>?_⟩;rcases CU.1 hb with rfl|h2;.exact λh1 h2 e=>CF a (List.mem_append_left _ ha) h2 h1 e.symm
  .exact p3 a ha b h2
def Lk (n:Nat)(x:Nat->Ob)(A:Nat->Option Addr)(C hb:Nat->Nat):List EO:=(List.range n).map λi=>⟨x i,A i,C i,hb i⟩
theorem Fw (n:Nat)(x:Nat->Ob)(A:Nat->Option Addr)(C hb:Nat->Nat):(Lk n x A C hb).length=n:=by simp[Lk]
theorem Lt (h:i<n):Ii (Lk n x A C hb) i=⟨x i,A i,C i,hb i⟩:=by simp[Ii,Lk,h]
theorem dR{ad:OA}(h:D4 w ad g n x A C hb):(Lk n x A C hb≠[]->ad=some ⟨g,0,none⟩/\FX w g (Lk n x A C hb))/\G0 w (Lk n x A C hb)/\∀e,e∈Lk n x A C hb->e.ob.hn≠0->e.hb≠g:=by
 have hm:∀e,e∈Lk n x A C hb->∃i,i<n/\e=⟨x i,A i,C i,hb i⟩:=λe he=>by obtain⟨i,hi,rfl⟩:=NS he;rw[Fw]at hi;exact⟨i,hi,Lt hi⟩
 refine⟨λh0=>?_,⟨λe he=>?_,λe he=>?_,?_⟩,λe he=>?_⟩
 .have hn:0<n:=by
   rcases Bi n with e|e;.subst e;exact absurd rfl h0
   .exact e
  obtain⟨c,r,hc⟩:=h.row hn;refine⟨h.addr hn,r.lt,r.free,λi hi=>?_⟩;rw[Fw]at hi;rw[Lt hi];obtain⟨a0,a1,a2,a3,a4,a5,a6⟩:=hc i hi;exact Aco
 .obtain⟨i,hi,rfl⟩:=hm e he;exact h.hold i hi
 .obtain⟨i,hi,rfl⟩:=hm e he;exact h.hlt i hi
 .refine List.pairwise_iff_getElem.2 λi j hi hj P4=>?_;rw[<-LZ hi,<-LZ hj];rw[Fw]at hi hj;rw[Lt hi,Lt hj];exact λh1 h2 e=>absurd (h.ap.inj i j hi hj h1 h2 e) Za
 .obtain⟨i,hi,rfl⟩:=hm e he;exact h.ap.ne i hi
theorem RP (n:Nat)(x:Nat->Ob)(A:Nat->Option Addr)(C hb:Nat->Nat):(Lk n x A C hb).map EO.ob=(List.range n).map x:=by simp[Lk]
theorem Rx (o:Ob):∀(l:List Ob)(k:Nat),k<=l.length->(∀j,j<k->∃y,l[j]?=some y/\DY y o=true)->(k<l.length->∃y,l[k]?=some y/\DY y o=false)->Ih o l=(l.filter (CV o)).take k++o::(l.filter (CV o)).drop k
 |[],k,hk,_,_=>by simp at hk;subst hk;rfl
 |y::r,0,_,_,h2=>by obtain⟨z,e,hz⟩:=h2 Ze;simp at e;subst e;simp[Ih,hz]
 |y::r,k+1,hk,h1,h2=>by
  obtain⟨z,e,hz⟩:=h1 0 Za;simp at e;subst e;have ho:CV o y=true:=by have:=(K7 y o).2 hz;unfold CV;exact decide_eq_true Za
  have ih:=Rx o r k (by simpa using hk) (λj hj=>by simpa using h1 (j+1) Za) (λcC=>by simpa using h2 (by simpa using cC));simp only[Ih,hz,if_true,List.filter_cons,ho,List.take_succ_cons,List.drop_succ_cons,Cy,ih]
theorem S8 (x z:Ob)(ad adz:OA)(cap capz bo:Nat)(w:World)(hb:bo<w.1.size)(hz:DF w bo 0 z adz capz):Calls prog 137 #[.agg (vO x ad cap),.p bo 0] w λe w'=>e=.returned (.bool (!DY x z))/\Below w.1.size w w':=by obtain⟨c0,c1,c2,c3,c4,c5,c6⟩:=hz;simp only[A6]at c1 c2 c3 c4 c5 c6;go_enter func137,ntmps137;go_wp2_with (go_at_call 91;go_must(refine(MY x z _ _ _ _ _).mono ?_;rintro e w1 ⟨rfl,AU⟩));go_ret;exact⟨rfl,(AC _ _).trans (AU.mono Ze)⟩
theorem iV (o x:Ob):(!CV o x)=decide (x.k.toList=o.k.toList/\x.n.toList=o.n.toList):=by
 unfold CV;have h:=K4 x o;by_cases hk:ET x o=0;.simp[hk,h.1 hk]
 .have:¬(x.k.toList=o.k.toList/\x.n.toList=o.n.toList):=λe=>hk (h.2 e);simp[hk,this]
theorem MP:prog.fieldsOf 89=#[{name:= "kind",type:=9,offset:=0,embedded:=false,tag:= "",pkgPath:= "loop.example/wharflog/impl",byteOffset:=0},{name:= "name",type:=9,offset:=1,embedded:=false,tag:= "",pkgPath:= "loop.example/wharflog/impl",byteOffset:=16}]:=Zc
theorem VD:prog.stoodInHeld 89=false:=Zc
theorem VA:prog.eqGuardType prog.depth 89=false:=Zc
theorem Ae3 (a b c d:ByteArray)(w:World):(binOp .eql 89 (.agg #[.s a,.s b]) (.agg #[.s c,.s d])).run prog w=.ok (.bool (decide (a.toList=c.toList/\b.toList=d.toList))) w:=by
 rw[run_eql_struct];have h:(Op.equalIn 10000 89 (.agg #[.s a,.s b]) (.agg #[.s c,.s d])).run prog w=.ok (decide (a.toList=c.toList/\b.toList=d.toList)) w:=by rw[run_equalIn_agg w 9999 89 _ _ (by rw[MP];exact underlying89) VD,MP];simp[go_sem,underlying9];by_cases h1:a.toList=c.toList<;>by_cases h2:b.toList=d.toList<;>simp[h1,h2]
 rw[h];rfl
theorem PK (x o:Ob)(ad:OA)(cap bk:Nat)(w:World)(hb:bk<w.1.size)(c0:w.cell? ⟨bk,0,none⟩=some (.s o.k))(c1:w.cell? ⟨bk,1,none⟩=some (.s o.n)):Calls prog 140 #[.agg (vO x ad cap),.p bk 0] w λe w'=>e=.returned (.bool (!CV o x))/\Below w.1.size w w':=by
 have hbl:=AC w (.cells (CJ x ad cap) 52);have hx:=E5 w (CJ x ad cap) 52;have ke:=(hbl.cell (p:=⟨bk,0,none⟩) hb).trans c0;have pH:=(hbl.cell (p:=⟨bk,1,none⟩) hb).trans c1;have hz:w.1.size<(w.alloc (.cells (CJ x ad cap) 52)).1.size:=Ze;go_enter func140,ntmps140;go_wp2;rw[show((vO x ad cap):Array Value)=CJ x ad cap from rfl];generalize w.alloc (.cells (CJ x ad cap) 52)=W at*;obtain⟨x0,x1,x2,x3,x4,x5,x6⟩:=I0 hx;have PX:bk<W.1.size:=Za;have d0:=Aq ke PX;have d1:=Aq pH PX;have y0:=Aq x0 hz;have y1:=Aq x1 hz;have y2:=Aq x2 hz;have y3:=Aq x3 hz;have y4:=Aq x4 hz;have y5:=Aq x5 hz;have y6:=Aq x6 hz;have CF:Nonempty (GW W):=⟨⟨_,Ap _ _⟩⟩;have HO:=Ab (iV o x);clear hx ke pH x0 x1 x2 x3 x4 x5 x6 c0 c1;have e84:=λw=>Ae3 x.k x.n o.k o.n w;have g84:=VA;refine AP Zc Zc ?_;repeat(go_big_quiet_step((go_at_call 40;go_must(exact B4 (JD x _ _ _)))))
 refine wpQuiet_nil ?_;rintro w2 ⟨u,hu⟩;have Dq:Below W.1.size W w2:=hu▸u.prop;clear hu u CF y0 y1 y2 y3 y4 y5 y6 d0 d1;go_wp2;go_ret;exact⟨A7 (by rw[HO.out,Bool.decide_and]),hbl.trans (Dq.mono Za)⟩
def yt (p:EO->Bool)(L:List EO)(r:Int):Prop:=(r=-1/\∀j,j<L.length->p (Ii L j)=false)\/∃k,k<L.length/\r=(k:Nat)/\p (Ii L k)=true/\∀j,j<k->p (Ii L j)=false
theorem Xt (p:EO->Bool)(bo:Nat)(ad:OA)(g cap:Nat)(L:List EO)(w:World)(hl:(L.length:Int)<=1099511627776)(FO:L≠[]->ad=some ⟨g,0,none⟩)(hr:L≠[]->FX w g L)(hp:∀(W:World)(e:EO),Below w.1.size w W->Calls prog 137 #[.agg (vO e.ob e.A e.C),.p bo 0] W λr W'=>r=.returned (.bool (p e))/\Below W.1.size W W'):Calls prog 136 #[.l ad L.length cap,.func (.func 137) #[] #[.p bo 0]] w λe w'=>∃r,e=.returned (.i r)/\yt p L r/\Below w.1.size w w':=by
 have HR:=Ab hr;have HA:=Ab FO;have HP:=Ab hp;clear hr FO hp;go_enter func136,ntmps136;go_wp2;go_loopw[5,8](λ_ i wr=>∃k:Nat,k<=L.length/\i=.i k/\Hid (∀j,j<k->p (Ii L j)=false)/\Below w.1.size w wr)(λ_ i _=>L.length-(intOf i).toNat);case atStart=>exact⟨0,Ar _,rfl,λj hj=>absurd hj (Ae _),Ap _ _⟩
 case round=>
  obtain⟨k,hk,rfl,HN,hb⟩:=hrel;by_cases B7:k<L.length
  .have CF:L≠[]:=λe=>by rw[e]at B7;exact absurd B7 (Ae _)
   obtain rfl:=HA CF;have kx:=HR CF;obtain⟨c0,c1,c2,c3,c4,c5,c6⟩:=(kx.ob k B7).below hb kx.lt;have uj:g<wr.1.size:=Aa kx.lt hb.size;have Io:=HP wr (Ii L k) hb;obtain⟨e,he⟩:∃e,Ii L k=e:=⟨_,rfl⟩;have HE:=Ab he;rw[he]at c0 c1 c2 c3 c4 c5 c6 Io;clear he kx;cases hpe:p e with
   |true=>rw[hpe]at Io;go_wp2_with (go_at_call 137;go_must(refine Io.mono ?_;rintro e2 w2 ⟨rfl,BT⟩));exact zt
   |false=>rw[hpe]at Io;go_wp2_with (go_at_call 137;go_must(refine Io.mono ?_;rintro e2 w2 ⟨rfl,BT⟩));exact yn
  .exact zi
theorem XM (p:EO->Bool)(bo:Nat)(ad:OA)(g cap:Nat)(L:List EO)(w:World)(hl:(L.length:Int)<=1099511627776)(FO:L≠[]->ad=some ⟨g,0,none⟩)(hr:L≠[]->FX w g L)(hp:∀(W:World)(e:EO),Below w.1.size w W->Calls prog 140 #[.agg (vO e.ob e.A e.C),.p bo 0] W λr W'=>r=.returned (.bool (p e))/\Below W.1.size W W'):Calls prog 136 #[.l ad L.length cap,.func (.func 140) #[] #[.p bo 0]] w λe w'=>∃r,e=.returned (.i r)/\yt p L r/\Below w.1.size w w':=by
 have HR:=Ab hr;have HA:=Ab FO;have HP:=Ab hp;clear hr FO hp;go_enter func136,ntmps136;go_wp2;go_loopw[5,8](λ_ i wr=>∃k:Nat,k<=L.length/\i=.i k/\Hid (∀j,j<k->p (Ii L j)=false)/\Below w.1.size w wr)(λ_ i _=>L.length-(intOf i).toNat);case atStart=>exact⟨0,Ar _,rfl,λj hj=>absurd hj (Ae _),Ap _ _⟩
 case round=>
  obtain⟨k,hk,rfl,HN,hb⟩:=hrel;by_cases B7:k<L.length
  .have CF:L≠[]:=λe=>by rw[e]at B7;exact absurd B7 (Ae _)
   obtain rfl:=HA CF;have kx:=HR CF;obtain⟨c0,c1,c2,c3,c4,c5,c6⟩:=(kx.ob k B7).below hb kx.lt;have uj:g<wr.1.size:=Aa kx.lt hb.size;have Io:=HP wr (Ii L k) hb;obtain⟨e,he⟩:∃e,Ii L k=e:=⟨_,rfl⟩;have HE:=Ab he;rw[he]at c0 c1 c2 c3 c4 c5 c6 Io;clear he kx;cases hpe:p e with
   |true=>rw[hpe]at Io;go_wp2_with (go_at_call 140;go_must(refine Io.mono ?_;rintro e2 w2 ⟨rfl,BT⟩));exact zt
   |false=>rw[hpe]at Io;go_wp2_with (go_at_call 140;go_must(refine Io.mono ?_;rintro e2 w2 ⟨rfl,BT⟩));exact yn
  .exact zi
theorem ML (z:Array Value)(n:Nat):(Builtin.zeroCells z n).toList.length=n*z.size:=by simp[Builtin.zeroCells]
theorem R4 (w:World)(t e ty:TypeId)(z:Value)(ht:P.underlying t=some (.slice e))(hv:∀w,(zeroValue e).run P w=.ok z w)(h1:∀v∈z.cells.toList,v.oneCell'=true)(b o n c:Nat)(hn:0<n)(hc:∀j,j<n*z.cells.size->(w.cell? ⟨b,o+j,none⟩).isSome=true)(hf:∀j,j<n*z.cells.size->w.frozen? ⟨b,o+j,none⟩=false):(Builtin.clear_ #[t] ty #[.l (some ⟨b,o,none⟩) n c]).run P w=.ok (.tuple #[]) (w.setCells b o (Builtin.zeroCells z.cells n).toList):=by
 have Df:=run_storeCells_cells (P:=P) b o (Builtin.zeroCells z.cells n).toList 0 w (by rw[ML];simpa using hc) (by rw[ML];simpa using hf) (by
  intro v hv';have ir:v∈Builtin.zeroCells z.cells n:=by simpa using hv'
  unfold Builtin.zeroCells at ir;obtain⟨i,hi,rfl⟩:=Array.mem_map.1 ir;have hi2:i<n*z.cells.size:=by simpa using hi
  have hz:0<z.cells.size:=by
   rcases Bi z.cells.size with h|h;.rw[h]at hi2;omega
   .exact h
  have hm:i%z.cells.size<z.cells.size:=GX _ hz;rw[getElem!_pos z.cells _ hm];exact h1 _ Ze);simp only[BU]at Df;obtain⟨m,rfl⟩:∃m,n=m+1:=⟨n-1,Za⟩;simp[Builtin.clear_,run_underlying ht,hv,Df]
theorem AB.setCells{P:Nat->Prop}{b:Nat}(hp:P b):∀(vs:List Value)(o:Nat)(a w:World),AB P a w->AB P a (w.setCells b o vs)
 |[],_,_,_,h=>h
 |v::r,o,a,_w,h=>AB.setCells hp r (o+1) a _ (h.setCell (p:=⟨b,o,none⟩) hp v)
theorem H8 (b:Nat):∀(vs:List Value)(o:Nat)(w:World),(w.setCells b o vs).1.size=w.1.size
 |[],_,_=>rfl
 |v::r,o,w=>(H8 b r (o+1) (w.setCell ⟨b,o,none⟩ v)).trans (Be _ _ _)
theorem M4{t:Nat}(h:¬t=i):Ii (K.set i e) t=Ii K t:=by unfold Ii;rw[List.getElem?_set_ne (λq=>h q.symm)]
theorem cJ (h:i<K.length):Ii (K.set i e) i=e:=by simp[Ii,h]
theorem FX.set (h:FX w g K)(hi:i<K.length)(e:EO):FX (w.setCells g (i*7) (MF e)) g (K.set i e):=by
 refine⟨by rw[H8];exact h.lt,λj=>by rw[DL];exact h.free j,λt ht=>?_⟩;rw[List.length_set]at ht;by_cases kj:t=i
 .subst kj;rw[cJ hi];have Cs:=DA g (MF e) (t*7) w (λj hj=>by have hj2:j<7:=hj;obtain⟨v,hv⟩:=h.cellAt (j:=t*7+j) Za;rw[hv];rfl);exact⟨Cs 0 Zcl,Cs 1 Zcl,Cs 2 Zcl,Cs 3 Zcl,Cs 4 Zcl,Cs 5 Zcl,Cs 6 Zcl⟩
 .rw[M4 kj];have Kq:∀k,k<7->(w.setCells g (i*7) (MF e)).cell? ⟨g,t*7+k,none⟩=w.cell? ⟨g,t*7+k,none⟩:=λk hk=>CQ g (MF e) (i*7) w ⟨g,t*7+k,none⟩ (λ_ _=>by show t*7+k<i*7\/i*7+7<=t*7+k;omega);obtain⟨c0,c1,c2,c3,c4,c5,c6⟩:=h.ob t ht;exact xw
theorem FX.cut{M:List EO}(h:FX w g K){o:Nat}(vs:List Value)(hm:M.length<=K.length)(he:∀t,t<M.length->Ii M t=Ii K t)(ho:M.length*7<=o):FX (w.setCells g o vs) g M:=by refine⟨by rw[H8];exact h.lt,λj=>by rw[DL];exact h.free j,λt ht=>?_⟩;rw[he t ht];have Kq:∀k,k<7->(w.setCells g o vs).cell? ⟨g,t*7+k,none⟩=w.cell? ⟨g,t*7+k,none⟩:=λk hk=>CQ g vs o w ⟨g,t*7+k,none⟩ (λ_ _=>by left;show t*7+k<o;omega);obtain⟨c0,c1,c2,c3,c4,c5,c6⟩:=h.ob t Za;exact xw
structure SY (kp:EO->Bool)(L K:List EO)(i j:Nat):Prop where
 len:K.length=L.length
 lt:i<j
 jn:j<=L.length
 cnt:((L.take j).filter kp).length=i
 low:∀t,t<i->Ii K t=Ii ((L.take j).filter kp) t
 high:∀t,j<=t->Ii K t=Ii L t
theorem Lw (h:j<L.length):L.take (j+1)=L.take j++[Ii L j]:=by rw[LZ h];exact(List.take_append_getElem h).symm
theorem SY.skip (h:SY kp L K i j)(hj:j<L.length)(hk:kp (Ii L j)=false):SY kp L K i (j+1):=by
 have e:(L.take (j+1)).filter kp=(L.take j).filter kp:=by rw[Lw hj,GV];simp[hk]
 exact⟨h.len,by have:=h.lt;omega,hj,by rw[e];exact h.cnt,λt ht=>by rw[e];exact h.low t ht,λt ht=>h.high t Za⟩
theorem SY.keep (h:SY kp L K i j)(hj:j<L.length)(hk:kp (Ii L j)=true):SY kp L (K.set i (Ii L j)) (i+1) (j+1):=by
 have e:(L.take (j+1)).filter kp=(L.take j).filter kp++[Ii L j]:=by rw[Lw hj,GV];simp[hk]
 have P4:=h.lt;refine⟨by rw[List.length_set];exact h.len,Za,hj,by rw[e,Ni,h.cnt];rfl,λt ht=>?_,λt ht=>?_⟩
 .rw[e];by_cases kj:t=i
  .subst kj;rw[cJ (by rw[h.len];omega)];have:=iM (K:=(L.take j).filter kp) (L:=[Ii L j]) (i:=0);rw[h.cnt]at this;rw[BU]at this;rw[this];rfl
  .rw[M4 kj,ay (by rw[h.cnt];omega)];exact h.low t Za
 .rw[M4 Za];exact h.high t Za
theorem LD:∀{k:Nat},k<=L.length->(∀t,t<k->kp (Ii L t)=true)->(L.take k).filter kp=L.take k:=λ{k}hk h=>by
 apply List.filter_eq_self.2;intro a ha;obtain⟨i,hi,rfl⟩:=List.mem_iff_getElem.1 ha;have hi2:i<k:=by simp at hi;omega
 have:=h i hi2;rw[LZ Za]at this;simpa using this
theorem SY.start{k:Nat}(hk:k<L.length)(h0:kp (Ii L k)=false)(h1:∀t,t<k->kp (Ii L t)=true):SY kp L L k (k+1):=by
 have e:(L.take (k+1)).filter kp=L.take k:=by rw[Lw hk,GV,LD Za h1];simp[h0]
 refine⟨rfl,Za,hk,by rw[e];simp;omega,λt ht=>?_,λt _=>rfl⟩;rw[e];simp[Ii,ht]
def Af7 (o:Ob)(L:List EO)(g:Nat)(w:World)(s5 s6:Value)(wr:World):Prop:=∃(i j:Nat)(K:List EO),s5=.i i/\s6=.i j/\SY (λe=>CV o e.ob) L K i j/\FX wr g K/\AB (λq=>q=g) w wr
theorem VC:∀w,(zeroValue 52).run prog w=.ok (.agg #[.s ByteArray.empty,.s ByteArray.empty,.i 0,.i 0,.s ByteArray.empty,.bool false,.l none 0 0]) w:=λw=>by kernel_rfl
attribute [local go_sem] Ct
theorem aX (o:Ob)(bk:Nat)(ad:OA)(g cap:Nat)(L:List EO)(w:World)(hl:(L.length:Int)<=1099511627776)(Eg:L.length<=cap)(FO:L≠[]->ad=some ⟨g,0,none⟩)(hr:L≠[]->FX w g L)(No:bk<w.1.size)(hgk:¬bk=g)(k0:w.cell? ⟨bk,0,none⟩=some (.s o.k))(k1:w.cell? ⟨bk,1,none⟩=some (.s o.n)):Calls prog 139 #[.l ad L.length cap,.func (.func 140) #[] #[.p bk 0]] w λe w'=>e=.returned (.l ad (L.filter (λe=>CV o e.ob)).length cap)/\(L≠[]->FX w' g (L.filter (λe=>CV o e.ob)))/\AB (λq=>L≠[]/\q=g) w w':=by
 have nA:=XM (λe=>!CV o e.ob) bk ad g cap L w hl FO hr (λW e hb=>PK e.ob o e.A e.C bk W (Aa No hb.size) ((hb.cell (p:=⟨bk,0,none⟩) No).trans k0) ((hb.cell (p:=⟨bk,1,none⟩) No).trans k1));have HK:Hid (∀W,AB (λq=>q=g) w W->bk<W.1.size/\W.cell? ⟨bk,0,none⟩=some (.s o.k)/\W.cell? ⟨bk,1,none⟩=some (.s o.n)):=λW hf=>⟨Aa No hf.size,(hf.cell (p:=⟨bk,0,none⟩) No hgk).trans k0,(hf.cell (p:=⟨bk,1,none⟩) No hgk).trans k1⟩;have HR:=Ab hr;have HA:=Ab FO;clear hr FO k0 k1;go_enter func139,ntmps139;go_wp2_with fail;refine nA.mono ?_;rintro e w1 ⟨r,rfl,qS,AU⟩;clear nA;rcases qS with⟨rfl,Bg⟩|⟨k,hk,rfl,hkt,B7⟩
 .have Aeq:L.filter (λe=>CV o e.ob)=L:=List.filter_eq_self.2 (λe he=>by obtain⟨i,hi,rfl⟩:=NS he;have:=Bg i hi;simpa using this);have HB:=Ab AU;have HL:=Ab Aeq;clear Bg AU Aeq;go_wp2;go_ret;rw[HL.out];exact⟨rfl,λh=>(HR h).grow HB,Aj HB⟩
 .have CF:L≠[]:=λe=>by rw[e]at hk;exact absurd hk (Ae _)
  obtain rfl:=HA CF;have hd0:Af7 o L g w (.i (k:Nat)) (.i ((k:Int)+1)) w1:=⟨k,k+1,L,rfl,by go_num,SY.start hk (by simpa using hkt) (λt ht=>by simpa using B7 t ht),(HR CF).grow AU,Aj AU⟩;have HD:=Ab hd0;have tt:(k:Int)<L.length:=Za;clear hd0 hkt B7 AU HA HR;go_wp2;go_loopw[5,6,7](λs5 s6 _ wr=>Af7 o L g w s5 s6 wr)(λ_ s6 _ _=>L.length-(intOf s6).toNat);case atStart=>exact HD
  case round=>
   obtain⟨i,j,K,rfl,rfl,hI,hR,hf⟩:=hrel;have HI:=Ab hI;have HRR:=Ab hR;have P4:=hI.lt;have kE:=hI.jn;have MR:=hI.len;by_cases hj:j<L.length
   .obtain⟨c0,c1,c2,c3,c4,c5,c6⟩:=hR.ob j Za;rw[hI.high j A9]at c0 c1 c2 c3 c4 c5 c6;obtain⟨e,he⟩:∃e,Ii L j=e:=⟨_,rfl⟩;rw[he]at c0 c1 c2 c3 c4 c5 c6;have HE:=Ab he;have uj:=hR.lt;have hjz:(j:Int)<L.length:=Za;clear hI hR he;go_wp2_with fail;have gG:AB (λq=>q=g) w (wr.alloc (.cells (CJ e.ob e.A e.C) 52)):=hf.trans (Aj (AC _ _));obtain⟨kb,kc0,kc1⟩:=HK _ gG;refine(PK e.ob o e.A e.C bk _ kb kc0 kc1).mono ?_;rintro e2 w2 ⟨rfl,BT⟩;have hbb:Below wr.1.size wr w2:=(AC _ _).trans (BT.mono Ze);obtain⟨b0,b1,b2,b3,b4,b5,b6⟩:=I0 ((E5 wr (CJ e.ob e.A e.C) 52).below BT Ze);have FP:AB (λq=>q=g) w w2:=hf.trans (Aj hbb);have Uu:=Ab (HRR.grow hbb);have ky:=Ab FP;have Ajy:=Uu.lt;have Fk:wr.1.size<w2.1.size:=by have:=BT.size;simp at this;omega
    clear c0 c1 c2 c3 c4 c5 c6 BT hbb hf gG FP kb kc0 kc1 HRR uj;cases cC:CV o e.ob with
    |false=>
     go_wp2;go_roundw;case rel=>exact⟨_,_,_,_,_,_,_,_,_,_,_,_,_,_,_,_,_,_,_,_,_,_,_,⟨i,j+1,K,rfl,by go_num,HI.skip hj (by rw[HE.out];exact cC),Uu,ky⟩,rfl⟩
     case measure=>simp[intOf];omega
    |true=>
     obtain⟨o0,o1,o2,o3,o4,o5,o6⟩:=Uu.ob i Za;have f0:=Uu.free (i*7);have f1:=Uu.free (i*7+1);have f2:=Uu.free (i*7+2);have f3:=Uu.free (i*7+3);have f4:=Uu.free (i*7+4);have f5:=Uu.free (i*7+5);have f6:=Uu.free (i*7+6);have hiz:(i:Int)<L.length:=Za;go_wp2;go_roundw;case rel=>have hI2:=HI.keep hj (by rw[HE.out];exact cC);rw[HE.out]at hI2;exact⟨_,_,_,_,_,_,_,_,_,_,_,_,_,_,_,_,_,_,_,_,_,_,_,⟨i+1,j+1,K.set i e,by go_num,by go_num,hI2,Uu.set Za e,AB.setCells (P:=λq=>q=g) rfl (MF e) (i*7) w w2 ky⟩,rfl⟩
     case measure=>simp[intOf];omega
   .obtain rfl:j=L.length:=Za;have Li:∀ty,(Builtin.clear_ #[23] ty #[.l (some ⟨g,i*7,none⟩) (L.length-i) (cap-i)]).run prog wr=.ok (.tuple #[]) (wr.setCells g (i*7) (Builtin.zeroCells #[.s ByteArray.empty,.s ByteArray.empty,.i 0,.i 0,.s ByteArray.empty,.bool false,.l none 0 0] (L.length-i)).toList):=λty=>R4 wr 23 52 ty _ underlying23 VC Zb g (i*7) _ _ Za (λt ht=>by obtain⟨v,hv⟩:=hR.cellAt (j:=i*7+t) (by simp[Value.cells]at ht;omega);rw[hv];rfl) (λt ht=>hR.free _);have hiz:(i:Int)<L.length:=Za;have HF:=Ab hf;have uj:=hR.lt;clear hI hR hf;go_wp2;go_ret;have hI:=HI.out;have Adh:=hI.cnt;have OE:=hI.low;rw[List.take_length]at Adh OE;exact⟨congrArg (λz:Nat=>Ending.returned (.l (some ⟨g,0,none⟩) z cap)) Adh.symm,λ_=>HRR.out.cut _ Za (λt ht=>(OE t Za).symm) Za,(AB.setCells (P:=λq=>q=g) rfl _ _ _ _ HF.out).mono (λq e=>⟨CF,e⟩)⟩
theorem LQ{w':World}{rest:List Oper}{o:Oper}{a:Act}(hgd:o.guard=none)(s x:Operand)(t t':TypeId)(ho:o.op=.call {callee:=.builtin .append,args:=#[s,x],argTypes:=#[t,t']})(u u' v:Value)(hs:a.eval s=u)(hx:a.eval x=u')(CZ:(Builtin.append_ #[t,t'] o.type #[u,u']).run P w=.ok v w')(h:wpList P ops Q rest (a.put o.dst v) w'):wpList P ops Q (o::rest) a w:=by refine wpList_plain hgd λK hK=>?_;exact yu
theorem cr (n:Nat)(w:World)(h0:0<n)(hn:(n:Int)<=1099511627776):Calls prog 142 #[.l none 0 0,.i n] w λe w'=>∃v,e=.returned v/\w'.ownsRow w.1.size 52 7 v 0 []/\Below w.1.size w w':=by
 obtain⟨i0,Fq,GH,C7,Fk⟩:=info_parts Eu;have iw:∀ty,∃G cur,n<=G/\G<=maxLen/\cur.size=G*7/\(Builtin.append_ #[23,3] ty #[.l none 0 0,.i (n:Int)]).run prog w=.ok (.l (some ⟨w.1.size,0,none⟩) n G) (w.drew.alloc (.cells cur 52)):=λty=>by have h:=Lib.run_append_grow_zeros w 23 3 ty 52 i0 _ .i64 .i64 underlying23 underlying3 Fq GH none 0 0 [] (run_firstCells_none w.drew i0.size 0 0 0) n h0 Za Za Za Zcv (growslice_fits Za Zcv);rw[A6]at h;refine⟨_,_,grownCap_ge w _ _ _,grownCap_le_maxLen w n 0 52 Zl,?_,h⟩;have hG:=grownCap_ge w n 0 52;simp only[Array.size_append,Builtin.zeroCells,Array.size_map,Array.size_range];simp[Value.cells];omega
 obtain⟨G,cur,hG1,hG2,Ad9,hap⟩:=iw 28;have uY:(G:Int)<=9223372036854775807:=by unfold maxLen at hG2;omega
 have HC:=Ab Ad9;have HG:=Ab hG2;have HAP:=Ab hap;clear hap;clear Ad9 hG2 iw Fq GH C7 Fk;go_enter func142,ntmps142;go_wp2_with (at_builtin;go_must(refine LQ rfl _ _ 23 3 rfl _ _ _ rfl rfl HAP ?_));go_ret;exact⟨_,rfl,Dy (base:=w.1.size) (e:=52) (size:=7) w.drew cur G A9 HG HC,((Ap _ _).drew).alloc A9 _⟩
def Of (f:Nat->List Value):Nat->List Value|0=>[]|k+1=>Of f k++f k
structure Aij (w:World)(q:Nat)(A:Nat->Option Addr)(M C:Nat->Nat)(news:Nat->List Value):Prop where
 len:∀j,j<q->(news j).length=M j*7
 one:∀j,j<q->∀u∈news j,u.oneCell'=true
 src:∀j,j<q->(A j=none/\M j=0/\C j=0)\/∃b off,A j=some ⟨b,off,none⟩/\b<w.1.size/\∀t u,(news j)[t]?=some u->w.cell? ⟨b,off+t,none⟩=some u
theorem ZH (q:Nat)(A:Nat->Option Addr)(M C:Nat->Nat)(news:Nat->List Value)(b:Nat)(w:World)(hb:b<w.1.size)(hq:(q:Int)<=1000)(Pb:∀j,j<q->w.cell? ⟨b,j,none⟩=some (.slice (A j) (M j) (C j)))(Mu:Aij w q A M C news)(Ow:0<FR M q)(Ks:(FR M q:Int)<=1099511627776):Calls prog 141 #[.l (some ⟨b,0,none⟩) q q] w λe w'=>∃v,e=.returned v/\w'.ownsRow w.1.size 52 7 v (FR M q) (Of news q)/\Below w.1.size w w':=by
 obtain⟨i0,Fq,GH,C7,Fk⟩:=info_parts Eu;have HC:=Ab Pb;have HS:=Ab Mu;have hmo:∀k,k<=q->FR M k<=FR M q:=λk hk=>ZM M hk;have HM:=Ab hmo;clear Pb Mu hmo;go_enter func141,ntmps141;go_wp2;go_loopw[3,5,11](λs _ i wr=>∃k:Nat,k<=q/\i=.i k/\s=.i (FR M k:Nat)/\wr=w)(λ_ _ i _=>q-(intOf i).toNat);case atStart=>exact⟨0,Ar _,rfl,rfl,rfl⟩
 case round=>
  obtain⟨k,hk,rfl,rfl,rfl⟩:=hrel;by_cases hkq:k<q
  .have c0:=HC k hkq;have hm:=HM (k+1) hkq;have jv:FR M (k+1)=FR M k+M k:=rfl;rw[jv]at hm;have tt:(k:Int)<q:=Za;clear jv;go_wp2;go_roundw;case rel=>exact⟨k+1,hkq,by go_num,congrArg (Value.int .i64) (by show(_:Int)=((FR M k+M k:Nat):Int);omega),trivial⟩
   case measure=>simp[intOf];omega
  .obtain rfl:k=q:=Za;have Qt:¬(FR M k:Int)<0:=Za;go_wp2_with (go_at_call 142;go_must(refine(cr (FR M k) _ Ow Ks).mono ?_;rintro e w1 ⟨v1,rfl,CW,AU⟩));have gO:=Ab CW;clear CW;obtain⟨W0,Uy⟩:∃W0,W0=wr:=⟨_,rfl⟩;subst Uy;go_loopw[6,8,27](λv _ i wr=>∃j:Nat,j<=k/\i=.i j/\Hid (wr.ownsRow W0.1.size 52 7 v (FR M j) (Of news j))/\Below W0.1.size W0 wr)(λ_ _ i _=>k-(intOf i).toNat);case atStart=>exact⟨0,Ar _,rfl,gO,AU⟩
   case round=>
    clear gO AU hkq;obtain⟨j,hj,rfl,LV,ui⟩:=hrel;by_cases bZ:j<k
    .have c0:=(ui.cell (p:=⟨b,j,none⟩) hb).trans (HC j bZ);have hm:=HM (j+1) bZ;have jv:FR M (j+1)=FR M j+M j:=rfl;rw[jv]at hm;have HMS:=Ab jv;have hjz:(j:Int)<k:=Za;have Gr:b<wr.1.size:=Aa hb ui.size;clear jv;rcases HS.src j bZ with⟨hA,hM0,hC0⟩|⟨sb,off,hA,iz,hcs⟩
     .rw[hA,hM0,hC0]at c0;have mD:news j=[]:=List.length_eq_zero_iff.1 (by rw[HS.len j bZ,hM0]);have HN:=Ab mD;have HM0:=Ab hM0;clear hA hM0 hC0 mD;go_wp2_with (at_builtin;go_must(refine wpList_append_own_none rfl _ _ 23 rfl W0.1.size 52 i0 7 underlying23 Fq _ (FR M j) (Of news j) rfl LV rfl ?_));go_roundw;case rel=>exact⟨j+1,bZ,by go_num,(show Hid _ from by show wr.ownsRow W0.1.size 52 7 _ (FR M j+M j) (Of news j++news j);rw[HN.out,HM0.out,List.append_nil];exact LV),ui⟩
      case measure=>simp[intOf];omega
     .rw[hA]at c0;have HNW:=Ab (show∀t u,(news j)[t]?=some u->wr.cell? ((⟨sb,off,none⟩:Addr).add t)=some u from λt u h=>by rw[Addr.add_lit];exact(ui.cell (p:=⟨sb,off+t,none⟩) iz).trans (hcs t u h));clear hcs hA;go_wp2_with (at_builtin;go_must(refine wpList_append_own_at _ rfl _ _ 23 rfl W0.1.size 52 i0 _ 7 96 underlying23 Fq GH C7 Fk rfl Zb _ (FR M j) (Of news j) rfl LV ⟨sb,off,none⟩ (M j) (C j) (news j) rfl (HS.len j bZ) HNW (HS.one j bZ) Zl Za ui.size ?_;intro v' w2 BH Bm Hs If;clear Hs If));have B2:Below W0.1.size W0 w2:=ui.trans ((BB Bm).below (λq hq e=>by have:=(LV.lt q e).1;omega) ui.size);have HO2:Hid (w2.ownsRow W0.1.size 52 7 v' (FR M (j+1)) (Of news (j+1))):=BH;clear BH Bm;go_wp2;go_roundw;case rel=>exact⟨j+1,bZ,by go_num,HO2,B2⟩
      case measure=>simp[intOf];omega
    .obtain rfl:j=k:=Za;go_wp2;go_ret;exact⟨_,rfl,LV,ui⟩
def RGd (n:Nat)(mk:(Nat->Value)->Array Value)(W:World)(G:Nat->Value->World->Prop)(dep:Nat->Nat->Prop)(Fin:Act->World->Prop)(l:Array Bool)(a:Act)(X:World):Prop:=l.size=n+1/\(∀i j,dep i j->l.getD i false=true->l.getD j false=true)/\((l.getD n false=true->(∀i,i<n+1->l.getD i false=true)/\Fin a X)/\(l.getD n false=false->∃t:Nat->Value,a=⟨mk t,[]⟩/\Below W.1.size W X/\∀i,i<n->l.getD i false=true->G i (t i) X))
theorem fH{id:Nat}{a0:Act}{W:World}(hm:P.follows .mixedOrders=true)(n:Nat)(mk:(Nat->Value)->Array Value)(G:Nat->Value->World->Prop)(dep:Nat->Nat->Prop)(Fin:Act->World->Prop)(hn:ops.size=n+1)(Fj:((List.range ops.size).all λi=>match ops[i]? with|some o=>o.after.all (λe=>decide (e.on<i))|none=>true)=true)(BJ:∀i j,dep i j->j<n)(hd:∀l i,i∈Region.ready .any ops l->∀j,dep i j->l.getD j false=true)(Bg:∀f:Nat->Prop,(∀i j,dep i j->f i->f j)->(∀j,dep n j->f j)->∀j,j<n->f j)(st:∀i v X Y,G i v X->Below X.1.size X Y->G i v Y)(h0:a0=⟨mk (λ_=>undef),[]⟩)(sg:∀i,i<n->∀t X K,Below W.1.size W X->(∀j,dep i j->G j (t j) X)->(∀v Y,G i v Y->Below X.1.size X Y->K ⟨mk (AX t i v),[]⟩ Y)->wpOp P ops Q i K ⟨mk t,[]⟩ X)(sl:∀t X K,Below W.1.size W X->(∀j,j<n->G j (t j) X)->(∀a Y,Fin a Y->K a Y)->wpOp P ops Q n K ⟨mk t,[]⟩ X)(G7:∀a X,Fin a X->Q .normal a X):(Code.region id ops true).wp P Q a0 W:=by
 refine Dk hm (RGd n mk W G dep Fin) ?_ ?_ ?_ ?_
 .have hz:∀i,(Array.replicate ops.size false).getD i false=false:=λi=>by simp[Array.getD]
  refine⟨by simp[hn],λi j _ h=>?_,λh=>?_,λ_=>⟨λ_=>undef,h0,(Ap _ _).drew,λi _ h=>?_⟩⟩<;>(rw[hz]at h;cases h)
 .exact RH
 .rintro l a X ⟨hs,_,h6,_⟩ hr;exact yP
 .rintro l a X i ⟨hs,Li,h6,hg⟩ hr;have di:=hd l i hr;obtain⟨hu,o,ho,_⟩:=mem_ready.1 hr;have LA:i<n+1:=by exact Z8
  have FH:l.getD i false=false:=by exact Vd
  have l6:l.getD n false=false:=by cases h:l.getD n false with
   |false=>rfl
   |true=>rw[(h6 h).1 i LA]at FH;cases FH
  obtain⟨t,rfl,hb,gg⟩:=hg l6;have kp:∀j,¬j=i->(l.setIfInBounds i true).getD j false=l.getD j false:=λj hj=>by rw[Cq Za,if_neg hj]
  have ki:(l.setIfInBounds i true).getD i false=true:=by rw[Cq Za,if_pos rfl]
  have hs':(l.setIfInBounds i true).size=n+1:=by simp[hs]
  have ku:∀j,l.getD j false=true->(l.setIfInBounds i true).getD j false=true:=λj h=>by exact Pm
  have MT:∀p j,dep p j->(l.setIfInBounds i true).getD p false=true->(l.setIfInBounds i true).getD j false=true:=λp j hj h=>by exact fJ
  clear hr hu ho h6 hg;by_cases Cs:i=n
  .subst Cs;have al:=Bg (λj=>l.getD j false=true) Li di;refine sl t X _ hb (λj hj=>gg j hj (al j hj)) (λa Y hY=>⟨hs',MT,λ_=>⟨λj hj=>?_,hY⟩,λh=>?_⟩);.exact XU
   .rw[ki]at h;cases h
  .have LI:(l.setIfInBounds i true).getD n false=false:=by rw[kp n (λe=>Cs e.symm)];exact l6
   refine sg i Za t X _ hb (λj hj=>gg j (BJ i j hj) (di j hj)) (λv Y hv hY=>⟨hs',MT,λh=>?_,λ_=>⟨AX t i v,rfl,hb.trans (hY.mono hb.size),λj j1 h=>?_⟩⟩);.rw[LI]at h;cases h
   .by_cases e:j=i;.exact RJ
    .rw[kp j e]at h;rw[BP e];exact st _ _ _ _ (gg j j1 h) hY
theorem IE:∀K L,DJ (K++L)=DJ K++DJ L
 |[],_=>rfl
 |e::r,L=>by simp only[Cy,DJ,IE r L,List.append_assoc]
theorem Ll:∀L,∀u∈DJ L,u.oneCell'=true
 |[],u,h=>by cases h
 |e::r,u,h=>by
  rcases List.mem_append.1 h with h1|h1;.simp[MF]at h1;rcases h1 with rfl|rfl|rfl|rfl|rfl|rfl|rfl<;>rfl
  .exact Ll r u h1
theorem av{base cap:Nat}(h:w.ownsRow base 52 7 (.l (some ⟨g,0,none⟩) L.length cap) L.length (DJ L))(hg:g<w.1.size):FX w g L:=⟨hg,λj=>h.frozenAt j,λi hi=>by
  have hc:∀r,r<7->w.cell? ⟨g,i*7+r,none⟩=(MF (Ii L i))[r]?:=λr hr=>by rw[h.cellAt (i*7+r) Za,OV L i r hi hr]
  exact⟨hc 0 Zb,hc 1 Zb,hc 2 Zb,hc 3 Zb,hc 4 Zb,hc 5 Zb,hc 6 Zb⟩⟩
def ni (ad:OA)(g cap k:Nat):Option Addr:=if cap=k then ad else some ⟨g,k*7,none⟩
def Aax (ad:OA)(g cap:Nat)(L:List EO)(k:Nat)(e:EO)(W:World)(i:Nat)(v:Value)(X:World):Prop:=match i with
 |0=>v=.l ad L.length cap
 |1=>v=.i k
 |2=>v=.l ad k cap
 |3=>v=.agg (vO e.ob e.A e.C)
 |4=>∃b1,v=.l (some ⟨b1,0,none⟩) 1 1/\b1<X.1.size/\Gp X b1 (CJ e.ob e.A e.C)
 |5=>v=.l ad L.length cap
 |6=>v=.i k
 |7=>v=.l (ni ad g cap k) (L.length-k) (cap-k)
 |8=>∃b3 b1,v=.l (some ⟨b3,0,none⟩) 3 3/\b3<X.1.size/\b1<X.1.size/\Gp X b1 (CJ e.ob e.A e.C)/\Gp X b3 #[.l ad k cap,.l (some ⟨b1,0,none⟩) 1 1,.l (ni ad g cap k) (L.length-k) (cap-k)]
 |_=>∃g' cap',v=.l (some ⟨g',0,none⟩) (L.length+1) cap'/\W.1.size<=g'/\L.length+1<=cap'/\FX X g' (L.take k++e::L.drop k)
def Ac3 (i j:Nat):Prop:=(i=2/\(j=0\/j=1))\/(i=4/\j=3)\/(i=7/\(j=5\/j=6))\/(i=8/\(j=2\/j=4\/j=7))\/(i=9/\j=8)\/(i=10/\j<10)
theorem Age (f:Nat->List Value):Of f 3=f 0++f 1++f 2:=by simp[Of]
theorem Ab6 (f:Nat->Nat):FR f 3=f 0+f 1+f 2:=by simp[FR]
attribute [local go_sem] Ct
theorem Abt (ad:OA)(g cap:Nat)(L:List EO)(k:Nat)(e:EO)(bx:Nat)(W:World)(Df:M7 W ad g cap L)(hk:k<=L.length)(hl:(L.length:Int)<=1099511627775)(sF:Gp W bx (CJ e.ob e.A e.C))(FV:bx<W.1.size)(Q:Exit->Act->World->Prop)(hQ:∀(t:Nat->Value) v X,Aax ad g cap L k e W 9 v X->Below W.1.size W X->Q .normal ⟨#[.l ad L.length cap,.i k,.agg (vO e.ob e.A e.C),undef,undef,.p bx 0,v,t 0,t 1,t 2,t 3,t 4,t 5,t 6,t 7,t 8,t 9],[]⟩ X):Code.wp prog (rg Tryz.f138 1) Q ⟨#[.l ad L.length cap,.i k,.agg (vO e.ob e.A e.C),undef,undef,.p bx 0,.l none 0 0,undef,undef,undef,undef,undef,undef,undef,undef,undef,undef],[]⟩ W:=by
 refine fH Zc 10 (λt:Nat->Value=>#[.l ad L.length cap,.i k,.agg (vO e.ob e.A e.C),undef,undef,.p bx 0,.l none 0 0,t 0,t 1,t 2,t 3,t 4,t 5,t 6,t 7,t 8,t 9]) (Aax ad g cap L k e W) Ac3 (λa X=>∃(t:Nat->Value)(v:Value),a=⟨#[.l ad L.length cap,.i k,.agg (vO e.ob e.A e.C),undef,undef,.p bx 0,v,t 0,t 1,t 2,t 3,t 4,t 5,t 6,t 7,t 8,t 9],[]⟩/\Aax ad g cap L k e W 9 v X/\Below W.1.size W X) rfl Zc ?_ ?_ ?_ ?_ rfl ?_ ?_ ?_;.intro i j h;unfold Ac3 at h;omega
 .intro l i hr j hj;obtain⟨_,o,ho,BJ⟩:=mem_ready.1 hr;rcases hj with⟨rfl,rfl|rfl⟩|⟨rfl,rfl⟩|⟨rfl,rfl|rfl⟩|⟨rfl,rfl|rfl|rfl⟩|⟨rfl,rfl⟩|⟨rfl,hj⟩<;>simp only[Ah,Ai,Af,AZ]at ho<;>subst ho;.exact BJ ⟨0,.data⟩ Ze rfl
  .exact BJ ⟨1,.data⟩ Ze rfl
  .exact BJ ⟨3,.data⟩ Ze rfl
  .exact BJ ⟨5,.data⟩ Ze rfl
  .exact BJ ⟨6,.data⟩ Ze rfl
  .exact BJ ⟨2,.data⟩ Ze rfl
  .exact BJ ⟨4,.data⟩ Ze rfl
  .exact BJ ⟨7,.data⟩ Ze rfl
  .exact BJ ⟨8,.data⟩ Ze rfl
  .rcases(Va j Za)with rfl|rfl|rfl|rfl|rfl|rfl|rfl|rfl|rfl|rfl;.exact BJ ⟨0,.phase⟩ Ze rfl
   .exact BJ ⟨1,.phase⟩ Ze rfl
   .exact BJ ⟨2,.phase⟩ Ze rfl
   .exact BJ ⟨3,.phase⟩ Ze rfl
   .exact BJ ⟨4,.phase⟩ Ze rfl
   .exact BJ ⟨5,.phase⟩ Ze rfl
   .exact BJ ⟨6,.phase⟩ Ze rfl
   .exact BJ ⟨7,.phase⟩ Ze rfl
   .exact BJ ⟨8,.phase⟩ Ze rfl
   .exact BJ ⟨9,.phase⟩ Ze rfl
 .intro f _ hf j hj;exact hf j jj
 .intro i v X Y h hb;match i with
  |0=>exact h
  |1=>exact h
  |2=>exact h
  |3=>exact h
  |4=>obtain⟨b1,e1,e2,e3⟩:=h;exact⟨b1,e1,Aa e2 hb.size,e3.below hb e2⟩
  |5=>exact h
  |6=>exact h
  |7=>exact h
  |8=>obtain⟨b3,b1,e1,e2,e3,e4,e5⟩:=h;exact⟨b3,b1,e1,Aa e2 hb.size,Aa e3 hb.size,e4.below hb e3,e5.below hb e2⟩
  |_+9=>obtain⟨g',cap',e1,e2,e3,e4⟩:=h;exact⟨g',cap',e1,e2,e3,e4.grow hb⟩
 .intro i hi t X K hb hg hK;rcases(Va i Za)with rfl|rfl|rfl|rfl|rfl|rfl|rfl|rfl|rfl|rfl;.exact UY
  .exact UY
  .have AY:t 0=_:=hg 0 jj;have Ff:t 1=_:=hg 1 jj;have h:=hK _ X rfl Dx;refine Au rfl rfl ?_;rcases Df with⟨rfl,rfl,rfl⟩|⟨rfl,hr,hc⟩
   .obtain rfl:k=0:=by simpa using hk
    go_simp;exact LN
   .have hkc:k<=cap:=AJ hk hc;go_simp;exact LN
  .obtain⟨q0,q1,q2,q3,q4,q5,q6⟩:=I0 (sF.below hb FV);exact UY
  .have AY:t 3=_:=hg 3 jj;have h:=hK (.l (some ⟨X.1.size,0,none⟩) 1 1) (X.alloc (.cells (CJ e.ob e.A e.C) 52)) ⟨X.1.size,rfl,Ze,E5 X _ 52⟩ Do;refine Au rfl rfl ?_;go_simp;simpa[AX,AY,CJ]using h
  .exact UY
  .exact UY
  .have AY:t 5=_:=hg 5 jj;have Ff:t 6=_:=hg 6 jj;have h:=hK _ X rfl Dx;refine Au rfl rfl ?_;unfold ni at h;rcases Df with⟨rfl,rfl,rfl⟩|⟨rfl,hr,hc⟩
   .obtain rfl:k=0:=by simpa using hk
    go_simp;exact LN
   .by_cases oK:cap=k
    .subst oK;rw[if_pos rfl,show L.length-cap=0 by omega,CA]at h;go_simp;exact LN
    .rw[if_neg oK]at h;go_simp;exact LN
  .have AY:t 2=_:=hg 2 jj;obtain⟨b1,e4,z1,h1⟩:=hg 4 jj;have Ff:t 7=_:=hg 7 jj;have hB:=Ak X (.cells #[.l ad k cap,.l (some ⟨b1,0,none⟩) 1 1,.l (ni ad g cap k) (L.length-k) (cap-k)] 23);have h:=hK (.l (some ⟨X.1.size,0,none⟩) 3 3) _ ⟨X.1.size,b1,rfl,Ze,Aa z1 hB.size,h1.below hB z1,E5 X _ 23⟩ hB;refine Au rfl rfl ?_;go_simp;simpa[AX,AY,e4,Ff]using h
  .obtain⟨b3,b1,e8,z3,z1,h1,h3⟩:=hg 8 jj;refine Au rfl rfl ?_;have HK:=Ab hK;have Ig:=Ab (Df.grow hb);have H1:=Ab h1;have H3:=Ab h3;clear hK hg h1 h3;go_simp;go_at_call 141;refine(ZH 3 (λj=>match j with|0=>ad|1=>some ⟨b1,0,none⟩|_=>ni ad g cap k) (λj=>match j with|0=>k|1=>1|_=>L.length-k) (λj=>match j with|0=>cap|1=>1|_=>cap-k) (λj=>match j with|0=>DJ (L.take k)|1=>MF e|_=>DJ (L.drop k)) b3 X z3 Za (λj hj=>?_) ⟨λj hj=>?_,λj hj=>?_,λj hj=>?_⟩ (by rw[Ab6];show 0<k+1+(L.length-k);omega) (by rw[Ab6];show((k+1+(L.length-k):Nat):Int)<=1099511627776;omega)).mono ?_
   .rcases(show j=0\/j=1\/j=2 by omega)with rfl|rfl|rfl;.exact H3 0
    .exact H3 1
    .exact H3 2
   .rcases(show j=0\/j=1\/j=2 by omega)with rfl|rfl|rfl;.show(DJ (L.take k)).length=k*7;rw[Ir,Ly,Nat.min_eq_left hk]
    .rfl
    .show(DJ (L.drop k)).length=(L.length-k)*7;rw[Ir,List.length_drop]
   .rcases(show j=0\/j=1\/j=2 by omega)with rfl|rfl|rfl;.exact Ll _
    .intro u hu;exact Ll [e] u (by simpa[DJ]using hu)
    .exact Ll _
   .rcases(show j=0\/j=1\/j=2 by omega)with rfl|rfl|rfl
    .rcases Ig.out with⟨rfl,rfl,rfl⟩|⟨rfl,hr,hc⟩;.exact AA ⟨rfl,by simpa using hk,rfl⟩
     .refine Az ⟨g,0,rfl,hr.lt,λt u hu=>?_⟩;rw[A6];refine hr.cells ?_;have hu':(DJ (L.take k))[t]?=some u:=hu;rw[<-Lc k L,IE,I7 (List.getElem?_eq_some_iff.1 hu').1];exact hu'
    .refine Az ⟨b1,0,rfl,z1,λt u hu=>?_⟩;rw[A6,H1.out t];have hu':(MF e)[t]?=some u:=hu;rw[<-hu'];simp[CJ,MF]
    .rcases Ig.out with⟨rfl,rfl,rfl⟩|⟨rfl,hr,hc⟩
     .obtain rfl:k=0:=by simpa using hk
      exact AA ⟨rfl,rfl,rfl⟩
     .by_cases oK:cap=k
      .have hd:L.drop k=[]:=List.drop_eq_nil_of_le Za;refine Az ⟨g,0,?_,hr.lt,λt u hu=>?_⟩
       .show ni _ g cap k=_;rw[ni,if_pos oK]
       .have hu':(DJ (L.drop k))[t]?=some u:=hu;rw[hd]at hu';simp[DJ]at hu'
      .refine Az ⟨g,k*7,?_,hr.lt,λt u hu=>?_⟩;.show ni _ g cap k=_;rw[ni,if_neg oK]
       .have hu':(DJ (L.drop k))[t]?=some u:=hu;refine hr.cells ?_;rw[<-Lc k L,IE,Nk (by rw[Ir,Ly];omega),Ir,Ly,Nat.min_eq_left hk,Ez];exact hu'
   .rintro r Y ⟨v,rfl,CG,Nn⟩;have MR:(L.take k++e::L.drop k).length=L.length+1:=Zd;have hs:k+1+(L.length-k)=L.length+1:=Za;rw[Ab6,Age]at CG;have BH:Y.ownsRow X.1.size 52 7 v (L.take k++e::L.drop k).length (DJ (L.take k++e::L.drop k)):=by rw[MR,IE];have:DJ (e::L.drop k)=MF e++DJ (L.drop k):=rfl;rw[this,<-List.append_assoc,<-hs];exact CG
    have hh:=BH.2;rcases hh with⟨_,h0⟩|⟨g',cap',cur,rfl,hb',Aeg,Om,_⟩;.rw[MR]at h0;omega
    .have hg':g'<Y.1.size:=(AM.1 Aeg).1;have h:=HK (.l (some ⟨g',0,none⟩) (L.length+1) cap') Y ⟨g',cap',rfl,AJ hb.size hb',by rw[<-MR];exact Om,av BH hg'⟩ Nn;rw[MR];simpa[AX,e8]using h
 .intro t X K hb hg hK;have h:=hK ⟨#[.l ad L.length cap,.i k,.agg (vO e.ob e.A e.C),undef,undef,.p bx 0,t 9,t 0,t 1,t 2,t 3,t 4,t 5,t 6,t 7,t 8,t 9],[]⟩ X ⟨t,t 9,rfl,hg 9 Za,hb⟩;refine Au rfl rfl ?_;go_simp;exact h
 .rintro a X ⟨t,v,rfl,h1,h2⟩;exact hQ t v X h1 h2
theorem aI (ad:OA)(g cap:Nat)(L:List EO)(k:Nat)(e:EO)(w:World)(Df:M7 w ad g cap L)(hk:k<=L.length)(hl:(L.length:Int)<=1099511627775):Calls prog 138 #[.l ad L.length cap,.i k,.agg (vO e.ob e.A e.C)] w λr w'=>∃g' cap',r=.returned (.l (some ⟨g',0,none⟩) (L.length+1) cap')/\w.1.size<=g'/\L.length+1<=cap'/\FX w' g' (L.take k++e::L.drop k)/\Below w.1.size w w':=by
 have hB:=Ak w (.cells (CJ e.ob e.A e.C) 52);have Ig:=Ab (Df.grow hB);have HX:=Ab (E5 w (CJ e.ob e.A e.C) 52);clear Df;go_enter func138,ntmps138;go_wp2;refine Abt ad g cap L k e w.1.size _ (by exact Ig) hk hl (by exact HX) Ze _ ?_;rintro t v X ⟨g',cap',rfl,z1,z2,hr⟩ Jc;have HR:=Ab hr;have z3:w.1.size<=g':=by simp at z1;omega
 have Pa:Below w.1.size w X:=hB.trans (Jc.mono Ze);clear hr Jc;go_wp2;go_ret;exact⟨g',cap',rfl,z3,z2,HR,Pa⟩
def Jk (o:Ob)(L:List EO):List EO:=L.filter (λe=>CV o e.ob)
theorem Po (o:Ob)(R:Nat)(ad:OA)(g cap:Nat)(L:List EO)(w:World)(hR:R<w.1.size)(uk:ad≠none->¬R=g)(hc:w.cell? ⟨R,0,none⟩=some (.slice ad L.length cap))(VH:w.frozen? ⟨R,0,none⟩=false)(Df:M7 w ad g cap L)(hl:(L.length:Int)<=1099511627775):Calls prog 135 #[.p R 0,.agg #[.s o.k,.s o.n]] w λe w'=>e=.returned (.tuple #[])/\w'.cell? ⟨R,0,none⟩=some (.slice ad (Jk o L).length cap)/\w'.frozen? ⟨R,0,none⟩=false/\M7 w' ad g cap (Jk o L)/\AB (λq=>q=R\/(L≠[]/\q=g)) w w':=by
 have hB:=Ak w (.cells #[.s o.k,.s o.n] 89);have hz:(w.alloc (.cells #[.s o.k,.s o.n] 89)).1.size=w.1.size+1:=Ze;have hk:=E5 w #[.s o.k,.s o.n] 89;obtain⟨g2,FO,Me,hg2,bI⟩:∃g2,(L≠[]->ad=some ⟨g2,0,none⟩)/\(L≠[]->FX (w.alloc (.cells #[.s o.k,.s o.n] 89)) g2 L)/\¬w.1.size=g2/\(L≠[]->g2=g):=by
  rcases Df with⟨_,h2,_⟩|⟨h1,h2,_⟩;.exact⟨w.1.size+1,λh=>absurd h2 h,λh=>absurd h2 h,Za,λh=>absurd h2 h⟩
  .exact⟨g,λ_=>h1,λ_=>h2.grow hB,by have:=h2.lt;omega,λ_=>rfl⟩
 have Eg:L.length<=cap:=by
  rcases Df with⟨_,h2,_⟩|⟨_,_,h3⟩;.rw[h2];exact Ar _
  .exact h3
 have Ad7:=aX o w.1.size ad g2 cap L _ Za Eg FO Me (by rw[hz];omega) hg2 (hk 0) (hk 1);have Ig:=Ab Df;have HB:=Ab bI;have HH:=Ab (show∀X,AB (λq=>L≠[]/\q=g2) (w.alloc (.cells #[.s o.k,.s o.n] 89)) X->X.cell? ⟨R,0,none⟩=some (.slice ad L.length cap)/\X.frozen? ⟨R,0,none⟩=false/\R<X.1.size/\AB (λq=>q=R\/(L≠[]/\q=g)) w X from λX hX=>by
  have CF:¬(L≠[]/\R=g2):=λ⟨h1,h2⟩=>by
   rcases Df with⟨_,h3,_⟩|⟨h3,_,_⟩;.exact h1 h3
   .exact uk (by rw[h3];simp) (h2.trans (bI h1))
  refine⟨?_,?_,?_,?_⟩;.exact(hX.cell (p:=⟨R,0,none⟩) (by rw[hz];show R<_;omega) CF).trans ((hB.cell (p:=⟨R,0,none⟩) hR).trans hc)
  .exact(hX.frozen (p:=⟨R,0,none⟩) (by rw[hz];show R<_;omega) CF).trans ((hB.frozen (p:=⟨R,0,none⟩) hR).trans VH)
  .have:=hX.size;omega
  .exact(Aj hB).trans (hX.mono (λq ⟨h1,h2⟩=>Az ⟨h1,h2.trans (bI h1)⟩)));have hcR:=(hB.cell (p:=⟨R,0,none⟩) hR).trans hc;have hRz:R<(w.alloc (.cells #[.s o.k,.s o.n] 89)).1.size:=Za;clear Df FO Me hg2 bI hc hk VH;go_enter func135,ntmps135;go_wp2_with fail;refine Ad7.mono ?_;rintro e w1 ⟨rfl,By,hf⟩;obtain⟨c1,f1,z1,F1⟩:=HH w1 hf;have SI:=Ab By;have HF:=Ab hf;have gM:=Ab F1;clear hcR Ad7 HH hf By F1;go_wp2;go_end0;refine⟨rfl,Cd _ _ _ c1,by rw[Fs];exact f1,?_,gM.setCell (p:=⟨R,0,none⟩) (AA rfl) _⟩;have Ds:Below w.1.size w (w.alloc (.cells #[.s o.k,.s o.n] 89)):=hB;rcases Ig.out with⟨h1,h2,h3⟩|⟨h1,h2,h3⟩;.subst h2;exact AA ⟨h1,rfl,h3⟩
 .have Aeu:=uk (by rw[h1];simp);have gL:AB (λq=>q=R) w1 (w1.setCell ⟨R,0,none⟩ (.l ad (L.filter (λe=>CV o e.ob)).length cap)):=AB.setCell (P:=λq=>q=R) (AB.refl _ w1) (p:=⟨R,0,none⟩) rfl _;refine Az ⟨h1,?_,AJ (D0 _ _) h3⟩;by_cases hn:L=[];.subst hn;exact((h2.grow Ds).fr HF (λh=>h.1 rfl)).fr gL (λh=>Aeu h.symm)
  .obtain rfl:=HB hn;exact(SI hn).fr gL (λh=>Aeu h.symm)
def Abp (i j:Nat):Prop:=(i=2/\j=1)\/(i=3/\j=2)\/(i=4/\j=3)\/(i=7/\(j=4\/j=5\/j=6))\/(i=8/\j<8)\/(i=9/\j=8)\/(i=10/\(j=9\/j=7))
def Agi (R:Nat)(ad:OA)(cap:Nat)(L:List EO)(k:Nat)(e:EO)(W:World)(i:Nat)(v:Value)(X:World):Prop:=match i with
 |4=>v=.l ad L.length cap
 |5=>v=.i k
 |6=>v=.agg (vO e.ob e.A e.C)
 |7=>∃g' cap',v=.l (some ⟨g',0,none⟩) (L.length+1) cap'/\W.1.size<=g'/\L.length+1<=cap'/\FX X g' (L.take k++e::L.drop k)
 |_=>v=.p R 0
end Go.Proofs.YtdknjmgdgnmhjaaGreat
