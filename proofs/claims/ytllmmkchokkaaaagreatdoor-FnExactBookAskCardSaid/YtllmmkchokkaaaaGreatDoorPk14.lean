import Derived.Test.YtllmmkchokkaaaaGreatDoorPk12
import Derived.Test.YtllmmkchokkaaaaGreatDoorPk05
import Derived.Test.YtllmmkchokkaaaaGreatDoorPk08
import Derived.Test.YtllmmkchokkaaaaGreatDoorPk13
import Derived.Test.YtllmmkchokkaaaaGreatDoorPk09
set_option maxRecDepth 100000
set_option maxHeartbeats 2000000
namespace Go.Proofs.YtllmmkchokkaaaaGreatDoor
open Go.RowKit Go.Maps Go.Proofs.Tryz
structure EO where
 ob:Ob
 A:Option Addr
 C:Nat
 hb:Nat
instance:Inhabited EO:=⟨⟨⟨ByteArray.empty,ByteArray.empty,0,0,ByteArray.empty,false,0,λ_=>ByteArray.empty⟩,none,0,0⟩⟩
def Fm(L:List EO)(i:Nat):EO:=(L[i]?).getD default
theorem I0{L:List EO}{i:Nat}(h:i<L.length):Fm L i=L[i]:=by simp[Fm,h]
theorem II{L:List EO}{i:Nat}(h:i<L.length):Fm L i∈L:=by rw[I0 h];exact List.getElem_mem h
theorem Mi{L:List EO}{e:EO}(h:e∈L):∃i,i<L.length/\Fm L i=e:=by obtain⟨i,hi,rfl⟩:=List.mem_iff_getElem.1 h;exact⟨i,hi,I0 hi⟩
structure MO(w:World)(g:Nat)(L:List EO):Prop where
 lt:g<w.1.size
 free:∀j,w.frozen? ⟨g,j,none⟩=false
 ob:∀i,i<L.length->DC w g (i*7) (Fm L i).ob (Fm L i).A (Fm L i).C
theorem DC.frP{w w':World}{P:Nat->Prop}{b o:Nat}{x:Ob}{ad:OA}{cap:Nat}(h:DC w b o x ad cap)(hf:AP P w w')(hb:b<w.1.size)(hp:¬P b):DC w' b o x ad cap:=have e:∀j,w'.cell? ⟨b,j,none⟩=w.cell? ⟨b,j,none⟩:=λj=>hf.cell (p:=⟨b,j,none⟩) hb hp
 ⟨(e _).trans h.c0,(e _).trans h.c1,(e _).trans h.c2,(e _).trans h.c3,(e _).trans h.c4,(e _).trans h.c5,(e _).trans h.c6⟩
theorem MO.fr{w w':World}{P:Nat->Prop}{g:Nat}{L:List EO}(h:MO w g L)(hf:AP P w w')(hp:¬P g):MO w' g L:=⟨Aa h.lt hf.size,λj=>(hf.frozen (p:=⟨g,j,none⟩) h.lt hp).trans (h.free j),λi hi=>(h.ob i hi).frP hf h.lt hp⟩
theorem MO.grow{w w':World}{g:Nat}{L:List EO}(h:MO w g L)(hf:Below w.1.size w w'):MO w' g L:=h.fr (Aq (P:=λ_=>False) hf) (λh=>h)
structure Gp (w:World)(L:List EO):Prop where
 hold:∀e,e∈L->AV w e.hb (e.hb+1) e.A e.ob.hn e.ob.hs
 lt:∀e,e∈L->e.ob.hn≠0->e.hb<w.1.size
 ap:L.Pairwise λe f=>e.ob.hn≠0->f.ob.hn≠0->e.hb≠f.hb
theorem Gp.fr{w w':World}{P:Nat->Prop}{L:List EO}(h:Gp w L)(hf:AP P w w')(hp:∀e,e∈L->e.ob.hn≠0->¬P e.hb):Gp w' L:=⟨λe he=>(h.hold e he).frP hf (λh0=>⟨hp e he h0,h.lt e he h0⟩),λe he h0=>Aa (h.lt e he h0) hf.size,h.ap⟩
theorem Gp.grow{w w':World}{L:List EO}(h:Gp w L)(hf:Below w.1.size w w'):Gp w' L:=h.fr (Aq (P:=λ_=>False) hf) (λ_ _ _ h=>h)
theorem Gp.sub{w:World}{K L:List EO}(h:Gp w L)(hs:K.Sublist L):Gp w K:=⟨λe he=>h.hold e (hs.subset he),λe he=>h.lt e (hs.subset he),h.ap.sublist hs⟩
theorem YD{w:World}{K L:List EO}{e:EO}(h:Gp w (K++L))(ho:AV w e.hb (e.hb+1) e.A e.ob.hn e.ob.hs)(hl:e.ob.hn≠0->e.hb<w.1.size)(hne:∀f,f∈K++L->e.ob.hn≠0->f.ob.hn≠0->e.hb≠f.hb):Gp w (K++e::L):=by
 have hm:∀f,f∈K++e::L->f=e\/f∈K++L:=λf hf=>by
  rcases CJ.1 hf with h1|h1;.exact Ax (GE _ h1)
  .rcases EI.1 h1 with h2|h2;.exact AD h2
   .exact Ax (Jw _ h2)
 refine⟨λf hf=>?_,λf hf=>?_,?_⟩
 .rcases hm f hf with rfl|h1;.exact ho
  .exact h.hold f h1
 .rcases hm f hf with rfl|h1;.exact hl
  .exact h.lt f h1
 .obtain⟨p1,p2,p3⟩:=List.pairwise_append.1 h.ap;refine List.pairwise_append.2 ⟨p1,LZ.2 ⟨λf hf=>hne f (Jw _ hf),p2⟩,λa ha b hb=>?_⟩;rcases EI.1 hb with rfl|h2;.exact λh1 h2 e=>hne a (GE _ ha) h2 h1 e.symm
  .exact p3 a ha b h2
theorem MO.cellAt{w:World}{g:Nat}{L:List EO}(h:MO w g L){j:Nat}(hj:j<L.length*7):∃v,w.cell? ⟨g,j,none⟩=some v:=by
 have hi:j/7<L.length:=Za;obtain⟨c0,c1,c2,c3,c4,c5,c6⟩:=h.ob (j/7) hi;have hr:j%7=0\/j%7=1\/j%7=2\/j%7=3\/j%7=4\/j%7=5\/j%7=6:=Za;rcases hr with e|e|e|e|e|e|e;.exact⟨_,by rw[show j=j/7*7 by omega];exact c0⟩
 .exact⟨_,by rw[show j=j/7*7+1 by omega];exact c1⟩
 .exact⟨_,by rw[show j=j/7*7+2 by omega];exact c2⟩
 .exact⟨_,by rw[show j=j/7*7+3 by omega];exact c3⟩
 .exact⟨_,by rw[show j=j/7*7+4 by omega];exact c4⟩
 .exact⟨_,by rw[show j=j/7*7+5 by omega];exact c5⟩
 .exact⟨_,by rw[show j=j/7*7+6 by omega];exact c6⟩
theorem fJ{w:World}{ad:OA}{g:Nat}{L:List EO}(had:L≠[]->ad=some ⟨g,0,none⟩)(hr:L≠[]->MO w g L)(hh:Gp w L)(hne:∀e,e∈L->e.ob.hn≠0->e.hb≠g):D5 w ad g L.length (λi=>(Fm L i).ob) (λi=>(Fm L i).A) (λi=>(Fm L i).C) (λi=>(Fm L i).hb):=by
 have nn:0<L.length->L≠[]:=λh e=>by rw[e]at h;exact absurd h (Bt _)
 refine⟨λh0=>had (nn h0),λh0=>?_,λi hi=>hh.hold _ (II hi),λi hi h0=>hh.lt _ (II hi) h0,⟨λi hi h0=>hne _ (II hi) h0,λi j hi hj h1 h2 e=>?_⟩⟩
 .have r:=hr (nn h0);have hc:∀o v,w.cell? ⟨g,o,none⟩=some v->(w.cell? ⟨g,o,none⟩).getD (.i 0)=v:=λo v e=>by rw[e];rfl
  refine⟨λj=>(w.cell? ⟨g,j,none⟩).getD (.i 0),⟨r.lt,r.free,λj hj=>?_⟩,λi hi=>?_⟩
  .obtain⟨v,e⟩:=r.cellAt hj;rw[e];rfl
  .obtain⟨c0,c1,c2,c3,c4,c5,c6⟩:=r.ob i hi;exact⟨hc _ _ c0,hc _ _ c1,hc _ _ c2,hc _ _ c3,hc _ _ c4,hc _ _ c5,hc _ _ c6⟩
 .rcases DQ i j with h|h|h;.exfalso;have:=G3.1 hh.ap i j hi hj h;rw[<-I0 hi,<-I0 hj]at this;exact this h1 h2 e
  .exact h
  .exfalso;have:=G3.1 hh.ap j i hj hi h;rw[<-I0 hi,<-I0 hj]at this;exact this h2 h1 e.symm
def DE (n:Nat)(x:Nat->Ob)(A:Nat->Option Addr)(C hb:Nat->Nat):List EO:=(List.range n).map λi=>⟨x i,A i,C i,hb i⟩
theorem GQ (n:Nat)(x:Nat->Ob)(A:Nat->Option Addr)(C hb:Nat->Nat):(DE n x A C hb).length=n:=by simp[DE]
theorem Ho{n:Nat}{x:Nat->Ob}{A:Nat->Option Addr}{C hb:Nat->Nat}{i:Nat}(h:i<n):Fm (DE n x A C hb) i=⟨x i,A i,C i,hb i⟩:=by simp[Fm,DE,h]
theorem WW{w:World}{ad:OA}{g n:Nat}{x:Nat->Ob}{A:Nat->Option Addr}{C hb:Nat->Nat}(h:D5 w ad g n x A C hb):(DE n x A C hb≠[]->ad=some ⟨g,0,none⟩/\MO w g (DE n x A C hb))/\Gp w (DE n x A C hb)/\∀e,e∈DE n x A C hb->e.ob.hn≠0->e.hb≠g:=by
 have hm:∀e,e∈DE n x A C hb->∃i,i<n/\e=⟨x i,A i,C i,hb i⟩:=λe he=>by obtain⟨i,hi,rfl⟩:=Mi he;rw[GQ]at hi;exact⟨i,hi,Ho hi⟩
 refine⟨λh0=>?_,⟨λe he=>?_,λe he=>?_,?_⟩,λe he=>?_⟩
 .have hn:0<n:=by
   rcases AW n with e|e;.subst e;exact absurd rfl h0
   .exact e
  obtain⟨c,r,hc⟩:=h.row hn;refine⟨h.addr hn,r.lt,r.free,λi hi=>?_⟩;rw[GQ]at hi;rw[Ho hi];obtain⟨a0,a1,a2,a3,a4,a5,a6⟩:=hc i hi;exact⟨(r.cell _ Za).trans (congrArg some a0),(r.cell _ Za).trans (congrArg some a1),(r.cell _ Za).trans (congrArg some a2),(r.cell _ Za).trans (congrArg some a3),(r.cell _ Za).trans (congrArg some a4),(r.cell _ Za).trans (congrArg some a5),(r.cell _ Za).trans (congrArg some a6)⟩
 .obtain⟨i,hi,rfl⟩:=hm e he;exact h.hold i hi
 .obtain⟨i,hi,rfl⟩:=hm e he;exact h.hlt i hi
 .refine G3.2 λi j hi hj hij=>?_;rw[<-I0 hi,<-I0 hj];rw[GQ]at hi hj;rw[Ho hi,Ho hj];exact λh1 h2 e=>absurd (h.ap.inj i j hi hj h1 h2 e) Za
 .obtain⟨i,hi,rfl⟩:=hm e he;exact h.ap.ne i hi
theorem PM (n:Nat)(x:Nat->Ob)(A:Nat->Option Addr)(C hb:Nat->Nat):(DE n x A C hb).map EO.ob=(List.range n).map x:=by simp[DE]
def IL (m:Nat)(y:Nat->Ob):List Ob:=(List.range m).map y
theorem Pt (m:Nat)(y:Nat->Ob):IL (m+1) y=IL m y++[y m]:=by simp[IL,List.range_succ]
theorem Rn (m:Nat)(y:Nat->Ob):(IL m y).length=m:=by simp[IL]
theorem JB (m:Nat)(y:Nat->Ob)(z:Ob):IL (m+1) (EQ y m z)=IL m y++[z]:=by
 rw[Pt];have h1:IL m (EQ y m z)=IL m y:=by unfold IL;apply List.map_congr_left;intro i hi;have:=Dq.1 hi;exact if_neg Za
 rw[h1];simp[EQ]
theorem Hv (x z:Ob):Eo x z<0↔DH x z=true:=by have h:=TY x z;cases hb:DH x z with
 |true=>rw[hb]at h;simp at h;simp;omega
 |false=>rw[hb]at h;simp at h;simp;omega
theorem KT (x z:Ob):Eo x z=0↔(x.kind.toList=z.kind.toList/\x.name.toList=z.name.toList):=by
 unfold Eo;constructor
 .intro h;split at h;.exact absurd h Zb
  .split at h
   .rename_i h2;split at h;.exact absurd h Zb
    .split at h;.rename_i h3;exact⟨h2,h3⟩
     .exact absurd h Zb
   .exact absurd h Zb
 .rintro⟨h1,h2⟩;rw[if_neg (by rw[GJ h1];decide),if_pos h1,if_neg (by rw[GJ h2];decide),if_pos h2]
def Dt (o y:Ob):Bool:=decide (¬Eo y o=0)
def Km (o:Ob):List Ob->List Ob
 |[]=>[o]
 |y::r=>if DH y o then y::Km o r else o::(y::r).filter (Dt o)
def Rq (o:Ob)(gone:Bool)(l:List Ob):List Ob:=if gone then l.filter (Dt o)else Km o l
theorem N4{x:Nat->Ob}{o:Ob}:∀n,IL (D1 x o true n).m (D1 x o true n).y=(IL n x).filter (Dt o)/\(D1 x o true n).done=true
 |0=>⟨rfl,rfl⟩
 |n+1=>by
  obtain⟨h1,h2⟩:=N4 (x:=x) (o:=o) n;rw[Pt,List.filter_append];show IL (CN o (x n) (D1 x o true n)).m (CN o (x n) (D1 x o true n)).y=_/\(CN o (x n) (D1 x o true n)).done=true;unfold CN;rw[h2,if_pos rfl];by_cases hk:Eo (x n) o=0;.rw[if_pos hk];exact⟨by rw[h1];simp[Dt,hk],h2⟩
  .rw[if_neg hk];exact⟨by rw[JB,h1];simp[Dt,hk],rfl⟩
def IZ (o:Ob):List Ob->List Ob×Bool
 |[]=>([],false)
 |y::r=>if DH y o then(y::(IZ o r).1,(IZ o r).2)else(o::(y::r).filter (Dt o),true)
theorem QQ (o z:Ob):∀l,IZ o (l++[z])=if(IZ o l).2 then((IZ o l).1++[z].filter (Dt o),true)else if DH z o then((IZ o l).1++[z],false)else((IZ o l).1++(o::[z].filter (Dt o)),true)
 |[]=>by simp only[KL,IZ];cases DH z o<;>simp
 |y::r=>by
  have ih:=QQ o z r;by_cases hb:DH y o=true
  .simp only[Ea,IZ,if_pos hb,ih];by_cases h1:(IZ o r).2=true;.simp only[if_pos h1]
   .simp only[if_neg h1];by_cases h2:DH z o=true;.simp only[if_pos h2]
    .simp only[if_neg h2]
  .simp only[Ea,IZ,if_neg hb,if_true];rw[<-Ea,List.filter_append]
theorem eL (o:Ob):∀l,Km o l=if(IZ o l).2 then(IZ o l).1 else(IZ o l).1++[o]
 |[]=>rfl
 |y::r=>by
  have ih:=eL o r;by_cases hb:DH y o=true
  .simp only[Km,IZ,if_pos hb,ih];by_cases h1:(IZ o r).2=true;.simp only[if_pos h1]
   .simp only[if_neg h1,Ea]
  .simp only[Km,IZ,if_neg hb,if_true]
theorem NJ{x:Nat->Ob}{o:Ob}:∀n,IL (D1 x o false n).m (D1 x o false n).y=(IZ o (IL n x)).1/\(D1 x o false n).done=(IZ o (IL n x)).2
 |0=>⟨rfl,rfl⟩
 |n+1=>by obtain⟨h1,h2⟩:=NJ (x:=x) (o:=o) n;rw[Pt,QQ];show IL (CN o (x n) (D1 x o false n)).m (CN o (x n) (D1 x o false n)).y=_/\(CN o (x n) (D1 x o false n)).done=_;unfold CN;rw[h2];have kn:=Hv (x n) o;cases hd:(IZ o (IL n x)).2 with
  |true=>
   simp only[if_true];by_cases hk:Eo (x n) o=0;.rw[if_pos hk];exact⟨by rw[h1];simp[Dt,hk],by rw[h2,hd]⟩
   .rw[if_neg hk];exact⟨by rw[JB,h1];simp[Dt,hk],rfl⟩
  |false=>
   simp only[DB,if_false];by_cases hn:Eo (x n) o<0;.rw[if_pos hn,if_pos (kn.1 hn)];exact⟨by rw[JB,h1],rfl⟩
   .have hb:¬DH (x n) o=true:=λh=>hn (kn.2 h);rw[if_neg hn,if_neg hb];by_cases hk:Eo (x n) o=0;.rw[if_pos hk];exact⟨by rw[JB,h1];simp[Dt,hk],rfl⟩
    .rw[if_neg hk];refine⟨?_,rfl⟩;show IL ((D1 x o false n).m+1+1) _=_;rw[JB,JB,h1];simp[Dt,hk]
theorem Mx (n:Nat)(x:Nat->Ob)(o:Ob)(gone:Bool):IL (Ep n x o gone).m (Ep n x o gone).y=Rq o gone (IL n x):=by unfold Ep LW Rq;cases gone with
 |true=>obtain⟨h1,h2⟩:=N4 (x:=x) (o:=o) n;rw[h2];simpa using h1
 |false=>obtain⟨h1,h2⟩:=NJ (x:=x) (o:=o) n;simp only[DB,if_false];rw[h2,eL];cases hd:(IZ o (IL n x)).2 with
  |true=>simpa using h1
  |false=>simp only[DB,if_false];rw[JB,h1]
theorem PH (o:Ob):∀(l:List Ob)(k:Nat),k<=l.length->(∀j,j<k->∃y,l[j]?=some y/\DH y o=true)->(k<l.length->∃y,l[k]?=some y/\DH y o=false)->Km o l=(l.filter (Dt o)).take k++o::(l.filter (Dt o)).drop k
 |[],k,hk,_,_=>by simp at hk;subst hk;rfl
 |y::r,0,_,_,h2=>by obtain⟨z,e,hz⟩:=h2 Ze;simp at e;subst e;simp[Km,hz]
 |y::r,k+1,hk,h1,h2=>by
  obtain⟨z,e,hz⟩:=h1 0 Za;simp at e;subst e;have ho:Dt o y=true:=by have:=(Hv y o).2 hz;unfold Dt;exact decide_eq_true Za
  have ih:=PH o r k (by simpa using hk) (λj hj=>by simpa using h1 (j+1) Za) (λhk2=>by simpa using h2 (by simpa using hk2));simp only[Km,hz,if_true,List.filter_cons,ho,List.take_succ_cons,List.drop_succ_cons,Ea,ih]
end Go.Proofs.YtllmmkchokkaaaaGreatDoor
namespace Go.Proofs.YtllmmkchokkaaaaGreatDoor
open Go.RowKit Go.Proofs.Tryz
structure Wr where
 op:Int
 kind:ByteArray
 name:ByteArray
 seen:Int
 text:ByteArray
 hold:ByteArray
abbrev vW (x:Wr):Array Value:=#[.i x.op,.s x.kind,.s x.name,.i x.seen,.s x.text,.s x.hold]
abbrev y9 (x:Wr):List Value:=[.i x.op,.s x.kind,.s x.name,.i x.seen,.s x.text,.s x.hold]
structure Kq (w:Wr):Prop where
 k:(w.kind.size:Int)<=140737488355328
 n:(w.name.size:Int)<=140737488355328
 t:(w.text.size:Int)<=140737488355328
 h:(w.hold.size:Int)<=140737488355328
def LN (s:ByteArray):Bool:=decide (s=⟨#[]⟩)
def Ew (w:Wr):Bool:=if w.op=1 then decide (w.seen=0)else if w.op=2 then LN w.hold else if w.op=3 then LN w.text&&LN w.hold else if w.op=4 then LN w.text&&!LN w.hold else if w.op=5 then LN w.text&&!LN w.hold else false
def Ed (w:Wr):Bool:=Bv w.kind&&(Bv w.name&&(decide (0<=w.seen)&&(decide (w.text.size<=300)&&(LN w.hold||Bv w.hold))))
def Er (w:Wr):Bool:=Ed w&&Ew w
theorem DM{a b:ByteArray}(h:a.toList=b.toList):a=b:=by cases a with|mk a=>cases b with|mk b=>
 have h2:a.toList=b.toList:=by simpa[KZ]using h
 exact congrArg ByteArray.mk (Array.ext' h2)
theorem Il{s:ByteArray}(h:¬s=⟨#[]⟩):(s.toList==(⟨#[]⟩:ByteArray).toList)=false:=by cases hb:(s.toList==(⟨#[]⟩:ByteArray).toList)with
 |false=>rfl
 |true=>exact absurd (DM L6) h
theorem BR{s:ByteArray}(h:¬s=⟨#[]⟩):¬s.toList=[]:=λe=>h (DM (e.trans (by simp[KZ])))
end Go.Proofs.YtllmmkchokkaaaaGreatDoor
namespace Go.Proofs.YtllmmkchokkaaaaGreatDoor
open Go.RowKit Go.Proofs.Tryz
def D2 (n:Nat)(s:Nat->ByteArray)(a:ByteArray):Bool:=!Bi (λi=>!decide (s i=a)) n
theorem WG{n:Nat}{s:Nat->ByteArray}{a:ByteArray}(h:∀i,i<n->¬s i=a):D2 n s a=false:=by unfold D2;rw[Bm.2 (λi hi=>by simp[h i hi])];rfl
theorem O5{n:Nat}{s:Nat->ByteArray}{a:ByteArray}{k:Nat}(hk:k<n)(h:s k=a):D2 n s a=true:=by unfold D2;rw[A9 (p:=λi=>!decide (s i=a)) hk (by simp[h])];rfl
theorem cC{a b:ByteArray}(h:¬a=b):(a.toList==b.toList)=false:=by cases hb:(a.toList==b.toList)with
 |false=>rfl
 |true=>exact absurd (DM L6) h
theorem Jo (n:Nat)(s:Nat->ByteArray)(ad:OA)(cap:Nat)(a:ByteArray)(w:World)(lo hi:Nat)(hl:(n:Int)<=140737488355328)(hc:AB w lo hi ad n s):Calls prog 131 #[.l ad n cap,.s a] w λe w'=>e=.returned (.bool (D2 n s a))/\w'=w:=by
 go_enter func131,ntmps131;go_wp2;go_loopw[5](λi wr=>∃k:Nat,k<=n/\i=.i k/\wr=w/\∀j,j<k->¬s j=a)(λi _=>n-(intOf i).toNat);case atStart=>exact⟨0,Ap _,rfl,rfl,λj hj=>absurd hj (Al _)⟩
 case round=>
  obtain⟨k,hk,rfl,rfl,hall⟩:=hrel;have HA:=Ai hall;clear hall;by_cases hkn:k<n
  .obtain⟨b,off,rfl,hlo,hbh,hcx⟩:=hc k hkn;clear hc;by_cases he:s k=a
   .subst he;have HE:=Ai (O5 (a:=s k) hkn rfl);go_wp2;go_ret;exact⟨Av HE.symm,rfl⟩
   .have hb:=cC he;have HN:=Ai he;clear he;go_wp2;go_roundw;case rel=>exact⟨k+1,Za,by go_num,by first|trivial|rfl,λj hj=>(by
     rcases As j k with h3|h3;.exact HA j h3
     .have:j=k:=Za;subst this;exact HN)⟩
    case measure=>simp[intOf];omega
  .have HE:=Ai (WG (n:=n) (s:=s) (a:=a) (λi hi=>HA.out i Za));clear hc;go_wp2;go_ret;exact⟨Av HE.symm,rfl⟩
def KH (v:Wr):Nat:=v.kind.size+v.name.size+v.text.size+v.hold.size
theorem So{P:Prop}(h:P:=by have HE:=Ai (show CU left (KH ⟨op,ki,na,se,te,ho⟩)=-1 from Cp (by rw[hs];omega));clear hs;go_enter func7,ntmps7;go_wp2;go_ret;exact⟨Bs HE.symm,Ae _ _⟩):P:=h
theorem fB (v:Wr)(hf:Kq v)(left:Int)(w:World)(h0:0<=left)(h1:left<=1048576):Calls prog 7 #[.agg (vW v),.i left] w λe w'=>e=.returned (.i (CU left (KH v)))/\Below w.1.size w w':=by
 obtain⟨op,ki,na,se,te,ho⟩:=v;obtain⟨f1,f2,f3,f4⟩:=hf;dsimp only at f1 f2 f3 f4⊢;have hs:KH ⟨op,ki,na,se,te,ho⟩=ki.size+na.size+te.size+ho.size:=rfl;by_cases c1:left<ki.size;.exact So
 by_cases c2:left-ki.size<na.size;.exact So
 by_cases c3:left-ki.size-na.size<te.size;.exact So
 by_cases c4:left-ki.size-na.size-te.size<ho.size;.exact So
 have HE:=Ai (show CU left (KH ⟨op,ki,na,se,te,ho⟩)=left-ki.size-na.size-te.size-ho.size from(Dx (by rw[hs];omega)).trans (by rw[hs];omega));clear hs;go_enter func7,ntmps7;go_wp2;go_ret;exact⟨Bs HE.symm,Ae _ _⟩
theorem ZV (v:Wr)(w:World):Calls prog 10 #[.agg (vW v)] w λe w'=>e=.returned (.agg (vW v))/\Below w.1.size w w':=by go_enter func10,ntmps10;go_wp2;refine bodyPost_ret (v:=.agg (vW v)) (by simp[results,results10,go_sem]) rfl ⟨rfl,?_⟩;exact(((Ak _ _).alloc Bj _).alloc Ze _).alloc Zd _
end Go.Proofs.YtllmmkchokkaaaaGreatDoor
namespace Go.Proofs.YtllmmkchokkaaaaGreatDoor
open Go.RowKit Go.Proofs.Tryz
theorem RN{a b:ByteArray}(h:¬a=b):(a.toList==b.toList)=false:=by cases hb:(a.toList==b.toList)with
 |false=>rfl
 |true=>exact absurd (DM L6) h
theorem UT (a:ByteArray)(w:World):Calls prog 185 #[.s a] w λe w'=>e=.returned (.bool false)/\w'=w:=by go_enter func185,ntmps185;go_wp2;go_ret;exact⟨rfl,rfl⟩
theorem Tm (a b:ByteArray)(w:World):Calls prog 184 #[.s a,.s b] w λe w'=>e=.returned (.bool (D4 a b))/\w'=w:=by go_enter func184,ntmps184;go_wp2_with (go_at_call 201;refine(Ly _ _).mono ?_;rintro e w1 ⟨rfl,rfl⟩);go_ret;exact⟨rfl,rfl⟩
theorem eQ{P:Prop}(h:P:=by refine bodyPost_ret (v:=.tuple #[.i p,.bool false]) (by simp[results,results155,go_sem]) rfl ⟨p,Za,H1,H2,by rw[HE.out],rfl⟩):P:=h
theorem U3 (n:Nat)(s:Nat->ByteArray)(ad:OA)(cap:Nat)(a:ByteArray)(w:World)(lo hi:Nat)(hl:(n:Int)<=1099511627776)(hc:AB w lo hi ad n s)(hasc:∀i j,i<j->j<n->D4 (s j) a=true->D4 (s i) a=true):Calls prog 155 #[.l ad n cap,.s a] w λe w'=>∃i:Nat,i<=n/\(∀j,j<i->D4 (s j) a=true)/\(∀j,i<=j->j<n->D4 (s j) a=false)/\e=.returned (.tuple #[.i i,.bool (decide (i<n)&&decide (s i=a))])/\w'=w:=by
 go_enter func155,ntmps155;go_wp2;go_loopw[7,8](λi j wr=>∃p q:Nat,p<=q/\q<=n/\i=.i p/\j=.i q/\wr=w/\(∀j,j<p->D4 (s j) a=true)/\(∀j,q<=j->j<n->D4 (s j) a=false))(λi j _=>(intOf j-intOf i).toNat);case atStart=>exact⟨0,n,Ap _,Aw _,rfl,rfl,rfl,λj hj=>absurd hj (Al _),λj h1 h2=>absurd h2 Za⟩
 case round=>
  obtain⟨p,q,hpq,hqn,rfl,rfl,rfl,hlo',hhi'⟩:=hrel;have H1:=Ai hlo';have H2:=Ai hhi';clear hlo' hhi';by_cases hp:p<q;.obtain⟨b,off,rfl,hlo0,hbh0,hcm⟩:=hc ((p+q)/2) Za;clear hc;have KN:=Ai hasc;clear hasc;cases hlt:D4 (s ((p+q)/2)) a with
   |true=>
    have HN:=Ai (show∀j,j<(p+q)/2+1->D4 (s j) a=true from λj hj=>by
     rcases As j ((p+q)/2)with h3|h3;.exact KN j _ h3 Za hlt
     .have:j=(p+q)/2:=Za;subst this;exact hlt);go_wp2_with (go_at_call 184;refine(Tm _ _ _).mono ?_;rintro e w1 ⟨rfl,rfl⟩;rw[hlt]);go_roundw;case rel=>exact⟨(p+q)/2+1,q,Za,hqn,by go_num,by first|rfl|trivial,by first|rfl|trivial,HN,H2⟩
    case measure=>simp[intOf];omega
   |false=>
    have HN:=Ai (show∀j,(p+q)/2<=j->j<n->D4 (s j) a=false from λj h1 h2=>by
     rcases As ((p+q)/2) j with h3|h3;.cases hx:D4 (s j) a with
      |false=>rfl
      |true=>rw[KN.out _ j h3 h2 hx]at hlt;cases hlt
     .have:j=(p+q)/2:=Za;subst this;exact hlt);go_wp2_with (go_at_call 184;refine(Tm _ _ _).mono ?_;rintro e w1 ⟨rfl,rfl⟩;rw[hlt]);go_roundw;case rel=>exact⟨p,(p+q)/2,Za,Za,by first|rfl|trivial,by go_num,by first|rfl|trivial,H1,HN⟩
    case measure=>simp[intOf];omega
  .have hpe:p=q:=Za;subst hpe;clear hasc;by_cases hpn:p<n
   .obtain⟨b,off,rfl,hlo0,hbh0,hcm⟩:=hc p hpn;clear hc;by_cases he:s p=a
    .have HE:=Ai (show(decide (p<n)&&decide (s p=a))=true by simp[hpn,he]);rw[he]at hcm;clear he;go_wp2;refine bodyPost_ret (v:=.tuple #[.i p,.bool true]) (by simp[results,results155,go_sem]) rfl ⟨p,Za,H1,H2,by rw[HE.out],rfl⟩
    .have hb:=RN he;have HE:=Ai (show(decide (p<n)&&decide (s p=a))=false by simp[he]);clear he;go_wp2_with (go_at_call 185;refine(UT _ _).mono ?_;rintro e w1 ⟨rfl,rfl⟩);exact eQ
   .have HE:=Ai (show(decide (p<n)&&decide (s p=a))=false by simp[hpn]);clear hc;go_wp2;exact eQ
end Go.Proofs.YtllmmkchokkaaaaGreatDoor
namespace Go.Proofs.YtllmmkchokkaaaaGreatDoor
open Go.RowKit Go.Proofs.Tryz
theorem Hq (o:Ob)(ad:OA)(cap:Nat)(ki na:ByteArray)(w:World):Calls prog 152 #[.agg (vO o ad cap),.agg #[.s ki,.s na]] w λe w'=>e=.returned (.i (Uq (Dg o.kind ki) (Dg o.name na)))/\Below w.1.size w w':=by
 go_enter func152,ntmps152;go_wp2;have hne:Nonempty (GW ((w.alloc (.cells (vO o ad cap) 118)).alloc (.cells #[.s ki,.s na] 139))):=⟨⟨_,Ak _ _⟩⟩;have x0:=Aj (W1:=((w.alloc (.cells (vO o ad cap) 118)).alloc (.cells #[.s ki,.s na] 139))) (p:=⟨w.1.size,0,none⟩) (v:=.s o.kind) WM Zd;have x1:=Aj (W1:=((w.alloc (.cells (vO o ad cap) 118)).alloc (.cells #[.s ki,.s na] 139))) (p:=⟨w.1.size,1,none⟩) (v:=.s o.name) WM Zd;have x2:=Aj (W1:=((w.alloc (.cells (vO o ad cap) 118)).alloc (.cells #[.s ki,.s na] 139))) (p:=⟨w.1.size,2,none⟩) (v:=.i o.ver) WM Zd;have x3:=Aj (W1:=((w.alloc (.cells (vO o ad cap) 118)).alloc (.cells #[.s ki,.s na] 139))) (p:=⟨w.1.size,3,none⟩) (v:=.i o.born) WM Zd;have x4:=Aj (W1:=((w.alloc (.cells (vO o ad cap) 118)).alloc (.cells #[.s ki,.s na] 139))) (p:=⟨w.1.size,4,none⟩) (v:=.s o.text) WM Zd;have x5:=Aj (W1:=((w.alloc (.cells (vO o ad cap) 118)).alloc (.cells #[.s ki,.s na] 139))) (p:=⟨w.1.size,5,none⟩) (v:=.bool o.ending) WM Zd;have x6:=Aj (W1:=((w.alloc (.cells (vO o ad cap) 118)).alloc (.cells #[.s ki,.s na] 139))) (p:=⟨w.1.size,6,none⟩) (v:=.l ad o.hn cap) WM Zd;have z0:=Aj (W1:=((w.alloc (.cells (vO o ad cap) 118)).alloc (.cells #[.s ki,.s na] 139))) (p:=⟨w.1.size+1,0,none⟩) (v:=.s ki) Ze Ze;have z1:=Aj (W1:=((w.alloc (.cells (vO o ad cap) 118)).alloc (.cells #[.s ki,.s na] 139))) (p:=⟨w.1.size+1,1,none⟩) (v:=.s na) Ze Ze;refine Ay Zc Zc ?_;repeat(go_big_quiet_step(first|(go_at_call 139;go_must(exact AY (LS o ad cap _)))|(go_at_call 153;go_must(exact AY (PQ _ _ _ _ _)))))
 refine wpQuiet_nil ?_;rintro w2 ⟨u,hu⟩;have hw2:Below ((w.alloc (.cells (vO o ad cap) 118)).alloc (.cells #[.s ki,.s na] 139)).1.size ((w.alloc (.cells (vO o ad cap) 118)).alloc (.cells #[.s ki,.s na] 139)) w2:=hu▸u.prop;clear hu u hne x0 x1 x2 x3 x4 x5 x6 z0 z1;go_wp2;go_ret;exact⟨rfl,((An _ _).alloc Ze _).trans (hw2.mono Zd)⟩
end Go.Proofs.YtllmmkchokkaaaaGreatDoor
namespace Go.Proofs.YtllmmkchokkaaaaGreatDoor
open Go.RowKit Go.Proofs.Tryz
def GI (x:Nat->Ob)(ki na:ByteArray)(i:Nat):Int:=Uq (Dg (x i).kind ki) (Dg (x i).name na)
theorem eX{P:Prop}(h:P:=by go_wp2;refine bodyPost_ret (v:=.tuple #[.i p,.bool false]) (by simp[results,results151,go_sem]) rfl ⟨p,Za,H1,H2,by rw[HE.out],hBw.trans (hw2.mono hBw.size)⟩):P:=h
theorem TZ (n:Nat)(x:Nat->Ob)(ad:OA)(cap:Nat)(ki na:ByteArray)(w:World)(lo hi:Nat)(hhi:hi<=w.1.size)(hl:(n:Int)<=1099511627776)(hc:BH w lo hi ad n x)(hasc:∀i j,i<j->j<n->GI x ki na j<0->GI x ki na i<0):Calls prog 151 #[.l ad n cap,.agg #[.s ki,.s na],.func (.func 152) #[] #[]] w λe w'=>∃i:Nat,i<=n/\(∀j,j<i->GI x ki na j<0)/\(∀j,i<=j->j<n->0<=GI x ki na j)/\e=.returned (.tuple #[.i i,.bool (decide (i<n)&&decide (GI x ki na i=0))])/\Below w.1.size w w':=by
 have KN:=Ai hasc;clear hasc;go_enter func151,ntmps151;go_wp2;go_loopw[9,10](λi j wr=>∃p q:Nat,p<=q/\q<=n/\i=.i p/\j=.i q/\Below (w.1.size+1) (w.alloc (.cells #[.s ki,.s na] 139)) wr/\(∀j,j<p->GI x ki na j<0)/\(∀j,q<=j->j<n->0<=GI x ki na j))(λi j _=>(intOf j-intOf i).toNat);case atStart=>exact⟨0,n,Ap _,Aw _,rfl,rfl,Ak _ _,λj hj=>absurd hj (Al _),λj h1 h2=>absurd h2 Za⟩
 case round=>
  obtain⟨p,q,hpq,hqn,rfl,rfl,hb,hlo',hhi'⟩:=hrel;have H1:=Ai hlo';have H2:=Ai hhi';clear hlo' hhi';have hBw:Below w.1.size w wr:=(Ae _ _).trans (hb.mono Za);have hsz:w.1.size+1<=wr.1.size:=by have:=hb.size;simpa using this
  by_cases hp:p<q
  .obtain⟨b,off,ah,ch,rfl,hlo0,hbh0,hcx,_⟩:=hc ((p+q)/2) Za;obtain⟨d0,d1,d2,d3,d4,d5,d6⟩:=hcx.below hBw Za;have x0:=Aj d0 Zj;have x1:=Aj d1 Zj;have x2:=Aj d2 Zj;have x3:=Aj d3 Zj;have x4:=Aj d4 Zj;have x5:=Aj d5 Zj;have x6:=Aj d6 Zj;have y0:=Aj (p:=⟨w.1.size,0,none⟩) (v:=.s ki) (Au (w:=w) (c:=#[.s ki,.s na]) (t:=139) L6 0) Zg;have y1:=Aj (p:=⟨w.1.size,1,none⟩) (v:=.s na) (Au (w:=w) (c:=#[.s ki,.s na]) (t:=139) L6 1) Zg;have hne:Nonempty (GW wr):=⟨⟨_,Ak _ _⟩⟩;clear hc d0 d1 d2 d3 d4 d5 d6;by_cases hlt:GI x ki na ((p+q)/2)<0
   .have HN:=Ai (show∀j,j<(p+q)/2+1->GI x ki na j<0 from λj hj=>by
     rcases As j ((p+q)/2)with h3|h3;.exact KN j _ h3 Za hlt
     .have:j=(p+q)/2:=Za;subst this;exact hlt);have hd:decide (Uq (Dg (x ((p+q)/2)).kind ki) (Dg (x ((p+q)/2)).name na)<0)=true:=decide_eq_true hlt;go_wp2;refine Ay Zc Zc ?_;repeat(go_big_quiet_step((go_at_call 152;go_must(exact AY (Hq (x ((p+q)/2)) ah ch ki na _)))))
    refine wpQuiet_nil ?_;rintro w2 ⟨u,hu⟩;have hw2:Below wr.1.size wr w2:=hu▸u.prop;clear hu u hne x0 x1 x2 x3 x4 x5 x6 y0 y1;go_wp2;go_roundw;case rel=>exact⟨(p+q)/2+1,q,Za,hqn,by go_num,by first|rfl|trivial,hb.trans (hw2.mono Za),HN,H2⟩
    case measure=>simp[intOf];omega
   .have HN:=Ai (show∀j,(p+q)/2<=j->j<n->0<=GI x ki na j from λj h1 h2=>by
     rcases As ((p+q)/2) j with h3|h3;.exact Int.not_lt.1 (λhx=>hlt (KN _ j h3 h2 hx))
     .have:j=(p+q)/2:=Za;subst this;exact Int.not_lt.1 hlt);have hd:decide (Uq (Dg (x ((p+q)/2)).kind ki) (Dg (x ((p+q)/2)).name na)<0)=false:=decide_eq_false hlt;go_wp2;refine Ay Zc Zc ?_;repeat(go_big_quiet_step((go_at_call 152;go_must(exact AY (Hq (x ((p+q)/2)) ah ch ki na _)))))
    refine wpQuiet_nil ?_;rintro w2 ⟨u,hu⟩;have hw2:Below wr.1.size wr w2:=hu▸u.prop;clear hu u hne x0 x1 x2 x3 x4 x5 x6 y0 y1;go_wp2;go_roundw;case rel=>exact⟨p,(p+q)/2,Za,Za,by first|rfl|trivial,by go_num,hb.trans (hw2.mono Za),H1,HN⟩
    case measure=>simp[intOf];omega
  .have hpe:p=q:=Za;subst hpe;by_cases hpn:p<n
   .have hg:decide ((p:Int)<n)=true:=decide_eq_true Za;obtain⟨b,off,ah,ch,rfl,hlo0,hbh0,hcx,_⟩:=hc (p) Za;obtain⟨d0,d1,d2,d3,d4,d5,d6⟩:=hcx.below hBw Za;have x0:=Aj d0 Zj;have x1:=Aj d1 Zj;have x2:=Aj d2 Zj;have x3:=Aj d3 Zj;have x4:=Aj d4 Zj;have x5:=Aj d5 Zj;have x6:=Aj d6 Zj;have y0:=Aj (p:=⟨w.1.size,0,none⟩) (v:=.s ki) (Au (w:=w) (c:=#[.s ki,.s na]) (t:=139) L6 0) Zg;have y1:=Aj (p:=⟨w.1.size,1,none⟩) (v:=.s na) (Au (w:=w) (c:=#[.s ki,.s na]) (t:=139) L6 1) Zg;have hne:Nonempty (GW wr):=⟨⟨_,Ak _ _⟩⟩;clear hc d0 d1 d2 d3 d4 d5 d6;by_cases he:GI x ki na p=0
    .have hd:(Uq (Dg (x p).kind ki) (Dg (x p).name na)==0)=true:=by simpa[GI]using he
     have HE:=Ai (show(decide (p<n)&&decide (GI x ki na p=0))=true by simp[hpn,he]);go_wp2;refine Ay Zc Zc ?_;repeat(go_big_quiet_step((go_at_call 152;go_must(exact AY (Hq (x (p)) ah ch ki na _)))))
     refine wpQuiet_nil ?_;rintro w2 ⟨u,hu⟩;have hw2:Below wr.1.size wr w2:=hu▸u.prop;clear hu u hne x0 x1 x2 x3 x4 x5 x6 y0 y1;go_wp2;refine bodyPost_ret (v:=.tuple #[.i p,.bool true]) (by simp[results,results151,go_sem]) rfl ⟨p,Za,H1,H2,by rw[HE.out],hBw.trans (hw2.mono hBw.size)⟩
    .have hd:(Uq (Dg (x p).kind ki) (Dg (x p).name na)==0)=false:=by simpa[GI]using he
     have HE:=Ai (show(decide (p<n)&&decide (GI x ki na p=0))=false by simp[he]);go_wp2;refine Ay Zc Zc ?_;repeat(go_big_quiet_step((go_at_call 152;go_must(exact AY (Hq (x (p)) ah ch ki na _)))))
     refine wpQuiet_nil ?_;rintro w2 ⟨u,hu⟩;have hw2:Below wr.1.size wr w2:=hu▸u.prop;clear hu u hne x0 x1 x2 x3 x4 x5 x6 y0 y1;exact eX
   .have hg:decide ((p:Int)<n)=false:=decide_eq_false Za;have HE:=Ai (show(decide (p<n)&&decide (GI x ki na p=0))=false by simp[hpn]);clear hc;go_wp2;have hne:Nonempty (GW wr):=⟨⟨_,Ak _ _⟩⟩;refine Ay Zc Zc ?_;repeat(go_big_quiet_step(fail))
    refine wpQuiet_nil ?_;rintro w2 ⟨u,hu⟩;have hw2:Below wr.1.size wr w2:=hu▸u.prop;clear hu u hne;exact eX
theorem lS (x:Nat->Ob)(z:Ob)(i:Nat):GI x z.kind z.name i=Eo (x i) z:=by unfold GI Eo Uq Dg;cases h1:D4 (x i).kind z.kind with
 |true=>simp
 |false=>
  by_cases h2:(x i).kind.toList=z.kind.toList;.cases h3:D4 (x i).name z.name with
   |true=>simp[h2]
   |false=>by_cases h4:(x i).name.toList=z.name.toList<;>simp[h2,h4]
  .simp[h2]
theorem Kv:∀{a b c:List UInt8},Op.bytesLess a b=true->Op.bytesLess b c=true->Op.bytesLess a c=true
 |[],_::_,[],_,h=>by simp[Op.bytesLess]at h
 |[],[],_,h,_=>by simp[Op.bytesLess]at h
 |[],_::_,_::_,_,_=>by simp[Op.bytesLess]
 |_::_,[],_,h,_=>by simp[Op.bytesLess]at h
 |_::_,_::_,[],_,h=>by simp[Op.bytesLess]at h
 |p::a,q::b,r::c,h1,h2=>by
  simp only[Op.bytesLess,Bool.or_eq_true,AG,decide_eq_true_eq,beq_iff_eq]at h1 h2⊢;rcases h1 with h1|⟨h1,h1'⟩
  .rcases h2 with h2|⟨h2,_⟩;.exact AD (UInt8.lt_trans h1 h2)
   .exact AD (h2▸h1)
  .rcases h2 with h2|⟨h2,h2'⟩;.exact AD (h1▸h2)
   .exact Ax ⟨h1.trans h2,Kv h1' h2'⟩
theorem Gy{a b c:ByteArray}(h1:D4 a b=true)(h2:D4 b c=true):D4 a c=true:=Kv h1 h2
theorem TV (n:Nat)(x:Nat->Ob)(ad:OA)(cap:Nat)(ki na:ByteArray)(w:World)(lo hi:Nat)(hhi:hi<=w.1.size)(hl:(n:Int)<=1099511627776)(hc:BH w lo hi ad n x)(hasc:∀i j,i<j->j<n->GI x ki na j<0->GI x ki na i<0):Calls prog 96 #[.l ad n cap,.agg #[.s ki,.s na]] w λe w'=>∃i:Nat,i<=n/\(∀j,j<i->GI x ki na j<0)/\(∀j,i<=j->j<n->0<=GI x ki na j)/\e=.returned (.tuple #[.i i,.bool (decide (i<n)&&decide (GI x ki na i=0))])/\Below w.1.size w w':=by have HC:=Ai (λo=>hc.below (Ae w o) hhi);have KN:=Ai hasc;clear hc hasc;go_enter func96,ntmps96;go_wp2_with fail;refine(TZ n x ad cap ki na _ lo hi Zd hl (HC _) KN).mono ?_;rintro e w1 ⟨i,hi,h1,h2,rfl,hb⟩;have H1:=Ai h1;have H2:=Ai h2;have B1:Below w.1.size w w1:=(Ae _ _).trans (hb.mono Ze);clear h1 h2 hb;go_wp2;refine bodyPost_ret (v:=.tuple #[.i i,.bool (decide (i<n)&&decide (GI x ki na i=0))]) (by simp[results,results96,go_sem]) rfl ⟨i,hi,H1,H2,rfl,B1⟩
end Go.Proofs.YtllmmkchokkaaaaGreatDoor
